import Derived.Shelf.Strings.Builder1
import Derived.Shelf.Small.Strs
import Derived.Shelf.Small.Wraps
import Derived.Shelf.Strings.BuilderF
import Derived.Shelf.Strings.BuilderK
import Derived.Shelf.Strconv.Itoa0
import Derived.Shelf.Strconv.Itoa1
import Derived.Shelf.LaysM
import Derived.Shelf.Strconv.Itoa2
import Derived.Shelf.Strconv.Itoa3
import Derived.Shelf.Strconv.Itoa4
import Derived.Shelf.Strconv.ParseIntEmpty
import Derived.Shelf.Strconv.Clone
import Derived.Shelf.Strconv.SyntaxError
import Derived.Shelf.LaysC
import Derived.Shelf.Strconv.ToError
import Derived.Shelf.Strconv.Lower
import Derived.Shelf.Strconv.ParseUint10
import Derived.Shelf.Strconv.ParseUint10Empty
import Derived.Shelf.Strconv.ParseUint10Any
import Derived.Shelf.Strconv.ParseInt10
import Derived.Shelf.Strconv.RangeError
import Derived.Shelf.Strconv.ToErrorRange
import Derived.Shelf.Strconv.ParseUintEmpty
import Derived.Shelf.Strconv.ParseUint10b64
import Derived.Shelf.Strconv.ParseUint10b32
import Derived.Shelf.Strconv.ParseUint10b16
import Derived.Shelf.Strconv.ParseUint10b8
import Derived.Shelf.Strconv.ParseUint10At
import Derived.Shelf.Strconv.ParseInt10At64
import Derived.Shelf.Strconv.ParseInt10At32
import Derived.Shelf.Strconv.ParseInt10At16
import Derived.Shelf.Strconv.ParseInt10At8
import Derived.Shelf.Strconv.ParseInt10All
import Derived.Shelf.Strconv.ParseIntPublic10
import Derived.Shelf.Strconv.ErrVarParseInt
import Derived.Shelf.Strings.Search1
import Derived.Shelf.Strings.Search2
import Derived.Shelf.Strings.Cut
import Derived.Shelf.Strings.Shaped
import Derived.Shelf.Strings.Prefix
import Derived.Test.YtjdhaegijjednaaGreatDoorProg
import Derived.WalkKit
import GoSem.Claim
import Derived.Lib.IndexMore
import Derived.Lib.Strings
import Derived.Lib.ParseIntBCases
import Derived.WalkSpells
import Derived.Deep.AppendLies
import Derived.OwnWalk
import Derived.WalkSmall
import Derived.Deep.CutBlock
import Derived.Deep.DeepCutAuto
import Derived.Lib.AtoiErrMem
import Derived.Lib.ConvBytes
import Derived.Lib.Hide
import Derived.Lib.AtoiAllMem
import Derived.BigCall
import Derived.BigGuard
import Derived.Deep.RegionHeld3
import Derived.Deep.RegionHeld2
import Derived.Deep.QuietTactic
import Derived.BigQuiet
import Derived.MapKept
import Derived.Deep.RegionLaw
import Derived.Laws.EntriesVeiled
set_option linter.all false
set_option maxRecDepth 100000
set_option maxHeartbeats 4000000
namespace Go.Proofs
open Go.Shelf
def Tryz.lays137_ren:Go.Shelf.Ren:=⟨fun | 137=>236 | 217=>262 | 266=>272 | n=>n,fun | 9=>9 | 5=>5 | 3=>3 | n=>n,fun | n=>n⟩
theorem Tryz.lays137:Go.Proofs.Lays.n137 Tryz.prog Tryz.lays137_ren:=by repeat' first | kernel_rfl | decide | intro _ | constructor
open Go.RowKit in
theorem Tryz.strings_IndexByte (s:ByteArray) (c:Int) (w:World) :
  Calls Tryz.prog 236 #[.string s,.int .u8 c] w fun e w'=>e = .returned (.int .i64 (Lib.indexByte s.data.toList c.toNat.toUInt8))∧w'=w:=Any.strings_IndexByte Tryz.lays137 s c w
def Tryz.lays210_ren:Go.Shelf.Ren:=⟨fun | 210=>270 | 206=>276 | n=>n,fun | 9=>9 | 4=>4 | 3=>3 | n=>n,fun | n=>n⟩
def Tryz.lays103_ren:Go.Shelf.Ren:=⟨fun | 103=>260 | 210=>270 | 206=>276 | n=>n,fun | 9=>9 | 4=>4 | 24=>42 | 3=>3 | n=>n,fun | n=>n⟩
theorem Tryz.lays103:Go.Proofs.Lays.n103 Tryz.prog Tryz.lays103_ren:=by repeat' first | kernel_rfl | decide | intro _ | constructor
open Go.RowKit in
theorem Tryz.strings_CutPrefix (s p:ByteArray) (w:World) :
  Calls Tryz.prog 260 #[.string s,.string p] w fun e w'=>e = .returned (.tuple #[.string ⟨(Lib.trimPrefix s.data.toList p.data.toList).toArray⟩,.bool (Lib.hasPrefix s.data.toList p.data.toList)])∧w'=w:=Any.strings_CutPrefix Tryz.lays103 s p w
def Tryz.laysM316_ren:Go.Shelf.Ren:=⟨fun | 316=>266 | n=>n,fun | 9=>9 | 3=>3 | 4=>4 | 37=>97 | 0=>0 | 127=>319 | 5=>5 | n=>n,fun | n=>n⟩
theorem Tryz.laysM316:Go.Proofs.LaysM.n316 Tryz.prog Tryz.laysM316_ren:=by repeat' first | kernel_rfl | decide | intro _ | constructor
open Go.RowKit in
theorem Tryz.stringslite_Clone (s:ByteArray) (w:World) (hlim:s.size≤281474976710656) :
  Calls Tryz.prog 266 #[.string s] w fun e w'=>e = .returned (.string s)∧Below w.heap.size w w':=Any.stringslite_Clone Tryz.laysM316 s w hlim
def Tryz.laysC245_ren:Go.Shelf.Ren:=⟨fun | 245=>279 | 279=>287 | 280=>288 | 281=>289 | 282=>290 | 316=>266 | 171=>293 | 205=>292 | 243=>294 | 246=>295 | 283=>296 | 284=>297 | 285=>298 | 286=>299 | 129=>301 | 317=>300 | 318=>302 | 319=>303 | 320=>304 | 337=>305 | 338=>306 | n=>n,fun | 9=>9 | 3=>3 | 75=>55 | 167=>467 | 4=>4 | 168=>469 | 210=>475 | 37=>97 | 0=>0 | 127=>319 | 145=>479 | 143=>477 | 2=>2 | 171=>481 | 53=>421 | 5=>5 | 173=>484 | 212=>486 | 51=>218 | 20=>20 | 213=>487 | 46=>332 | 232=>490 | 233=>491 | 80=>70 | n=>n,fun | 15=>3 | 16=>4 | 17=>5 | 18=>6 | 19=>7 | n=>n⟩
theorem Tryz.laysC245:Go.Proofs.LaysC.n245 Tryz.prog Tryz.laysC245_ren:=by repeat' first | kernel_rfl | decide | intro _ | constructor
open Go.RowKit in
theorem Tryz.strconv_toError_syntax (fn s:ByteArray) (base bits:Int) (ev:Value) (w:World) (hlim:s.size≤281474976710656) (hv:w.cell? ⟨3,0,none⟩=some ev) (hev:ev = .nilIface∨∃ te pe,ev = .iface te pe) :
  Calls Tryz.prog 279 #[.string fn,.string s,.int .i64 base,.int .i64 bits,.iface 467 (.int .i64 2)] w fun e w'=>∃ N,e = .returned (.iface 469 (.pointer (some ⟨N,0,none⟩)))∧w.heap.size≤N∧w'.heap[N]? = some (.cells #[.string fn,.string s,ev] 475 (0,0))∧Below w.heap.size w w':=Any.strconv_toError_syntax Tryz.laysC245 fn s base bits ev w hlim hv hev
def Tryz.lays321_ren:Go.Shelf.Ren:=⟨fun | 321=>285 | n=>n,fun | 5=>5 | n=>n,fun | n=>n⟩
theorem Tryz.lays321:Go.Proofs.Lays.n321 Tryz.prog Tryz.lays321_ren:=by repeat' first | kernel_rfl | decide | intro _ | constructor
open Go.RowKit in
theorem Tryz.internal_strconv_lower (c:Int) (w:World) :
  Calls Tryz.prog 285 #[.int .u8 c] w fun e w'=>e = .returned (.int .u8 (bits .or .u8 c 32))∧w'=w:=Any.internal_strconv_lower Tryz.lays321 c w
def Tryz.lays287_ren:Go.Shelf.Ren:=⟨fun | 287=>278 | 321=>285 | 322=>286 | n=>n,fun | 9=>9 | 3=>3 | 53=>421 | 75=>55 | 4=>4 | 167=>467 | 5=>5 | 46=>332 | 37=>97 | 0=>0 | 21=>21 | 80=>70 | n=>n,fun | n=>n⟩
theorem Tryz.lays287:Go.Proofs.Lays.n287 Tryz.prog Tryz.lays287_ren:=by repeat' first | kernel_rfl | decide | intro _ | constructor
open Go.RowKit in
theorem Tryz.internal_strconv_ParseUint_empty (base bits:Int) (w:World) :
  Calls Tryz.prog 278 #[.string ⟨#[]⟩,.int .i64 base,.int .i64 bits] w fun e w'=>e = .returned (.tuple #[.int .u64 0,.iface 467 (.int .i64 2)])∧w'=w:=Any.internal_strconv_ParseUint_empty Tryz.lays287 base bits w
def Tryz.laysC174_ren:Go.Shelf.Ren:=⟨fun | 174=>275 | 247=>281 | 245=>279 | 287=>278 | 279=>287 | 280=>288 | 281=>289 | 282=>290 | 321=>285 | 322=>286 | 316=>266 | 171=>293 | 205=>292 | 243=>294 | 246=>295 | 283=>296 | 284=>297 | 285=>298 | 286=>299 | 129=>301 | 317=>300 | 318=>302 | 319=>303 | 320=>304 | 337=>305 | 338=>306 | n=>n,fun | 9=>9 | 3=>3 | 2=>2 | 75=>55 | 85=>463 | 4=>4 | 167=>467 | 5=>5 | 53=>421 | 175=>460 | 46=>332 | 168=>469 | 37=>97 | 0=>0 | 210=>475 | 21=>21 | 127=>319 | 145=>479 | 143=>477 | 171=>481 | 173=>484 | 212=>486 | 51=>218 | 20=>20 | 213=>487 | 232=>490 | 233=>491 | 80=>70 | n=>n,fun | 15=>3 | 16=>4 | 17=>5 | 18=>6 | 19=>7 | n=>n⟩
theorem Tryz.laysC174:Go.Proofs.LaysC.n174 Tryz.prog Tryz.laysC174_ren:=by repeat' first | kernel_rfl | decide | intro _ | constructor
open Go.RowKit in
theorem Tryz.strconv_ParseInt_10_at64_ok (s:ByteArray) (hmax:s.size≤9223372036854775806) (v:Int) (h:Lib.parseIntB 64 s.data.toList = .ok v) (w:World) :
  Calls Tryz.prog 275 #[.string s,.int .i64 10,.int .i64 64] w fun e w'=>e = .returned (.tuple #[.int .i64 v,.nilIface])∧(w'=w∨∃ t,w'=Lib.bytesWorld w 5 t):=Any.strconv_ParseInt_10_at64_ok Tryz.laysC174 s hmax v h w
open Go.RowKit in
theorem Tryz.strconv_ParseInt_10_at64_syntax (s:ByteArray) (hlim:s.size≤281474976710656) (h:Lib.parseIntB 64 s.data.toList = .«syntax») (ev:Value) (w:World) (hv:w.cell? ⟨3,0,none⟩=some ev) (hev:ev = .nilIface∨∃ te pe,ev = .iface te pe) :
  Calls Tryz.prog 275 #[.string s,.int .i64 10,.int .i64 64] w fun e w'=>∃ N,e = .returned (.tuple #[.int .i64 (0),.iface 469 (.pointer (some ⟨N,0,none⟩))])∧w.heap.size≤N∧w'.heap[N]? = some (.cells #[.string ⟨#[80,97,114,115,101,73,110,116]⟩,.string s,ev] 475 (0,0))∧Below w.heap.size w w':=Any.strconv_ParseInt_10_at64_syntax Tryz.laysC174 s hlim h ev w hv hev
open Go.RowKit in
theorem Tryz.strconv_ParseInt_10_at64_range (s:ByteArray) (hlim:s.size≤281474976710656) (h:Lib.parseIntB 64 s.data.toList = .range) (ev:Value) (w:World) (hv:w.cell? ⟨4,0,none⟩=some ev) (hev:ev = .nilIface∨∃ te pe,ev = .iface te pe) :
  Calls Tryz.prog 275 #[.string s,.int .i64 10,.int .i64 64] w fun e w'=>∃ N,e = .returned (.tuple #[.int .i64 (Lib.intSat 64 s.data.toList),.iface 469 (.pointer (some ⟨N,0,none⟩))])∧w.heap.size≤N∧w'.heap[N]? = some (.cells #[.string ⟨#[80,97,114,115,101,73,110,116]⟩,.string s,ev] 475 (0,0))∧Below w.heap.size w w':=Any.strconv_ParseInt_10_at64_range Tryz.laysC174 s hlim h ev w hv hev
def Tryz.lays219_ren:Go.Shelf.Ren:=⟨fun | 219=>277 | 217=>262 | 225=>282 | 224=>283 | 267=>284 | 266=>272 | 314=>291 | n=>n,fun | 9=>9 | 3=>3 | 4=>4 | 5=>5 | 46=>332 | 146=>472 | 51=>218 | n=>n,fun | 1=>2 | n=>n⟩
def Tryz.lays145_ren:Go.Shelf.Ren:=⟨fun | 145=>261 | 220=>271 | 219=>277 | 217=>262 | 225=>282 | 224=>283 | 267=>284 | 266=>272 | 314=>291 | n=>n,fun | 9=>9 | 4=>4 | 59=>454 | 3=>3 | 5=>5 | 46=>332 | 146=>472 | 51=>218 | n=>n,fun | 1=>2 | n=>n⟩
theorem Tryz.lays145:Go.Proofs.Lays.n145 Tryz.prog Tryz.lays145_ren:=by repeat' first | kernel_rfl | decide | intro _ | constructor
open Go.RowKit Go.Lib in
theorem Tryz.strings_Cut (s sep:ByteArray) (m:Int) (w:World) (hs:s.size < 4294967281) (hm:w.cell? ⟨2,0,none⟩=some (.int .i64 m)) :
  Calls Tryz.prog 261 #[.string s,.string sep] w fun e w'=>e = .returned (.tuple #[.string ⟨(Lib.cut s.data.toList sep.data.toList).1.toArray⟩,.string ⟨(Lib.cut s.data.toList sep.data.toList).2.1.toArray⟩,.bool (Lib.cut s.data.toList sep.data.toList).2.2])∧∃ n,w'=w.drewN n:=Any.strings_Cut Tryz.lays145 s sep m w hs hm
def Tryz.lays101_ren:Go.Shelf.Ren:=⟨fun | 101=>274 | 208=>280 | 206=>276 | n=>n,fun | 9=>9 | 4=>4 | 3=>3 | n=>n,fun | n=>n⟩
theorem Tryz.lays101:Go.Proofs.Lays.n101 Tryz.prog Tryz.lays101_ren:=by repeat' first | kernel_rfl | decide | intro _ | constructor
open Go.RowKit Go.Lib in
theorem Tryz.strings_TrimPrefix (s p:ByteArray) (w:World) :
  Calls Tryz.prog 274 #[.string s,.string p] w fun e w'=>e = .returned (.string ⟨(Lib.trimPrefix s.data.toList p.data.toList).toArray⟩)∧w'=w:=Any.strings_TrimPrefix Tryz.lays101 s p w
end Go.Proofs
namespace Go.Proofs.YtjdhaegijjednaaGreatDoor
open Go.RowKit Go.MapKept Go.Proofs.Tryz
section
def af(p:Prop):Prop:=p
theorem af.w{p:Prop}(h:af p):p:=h
section
variable {a:Prop}
abbrev Y2:=@if_neg
abbrev Y4:=@Nat.le_refl
abbrev Y5:=@List.mem_cons_of_mem
abbrev Y8:=@Or.inl
abbrev Y9:=@if_pos
abbrev Ya:=@Or.inr
abbrev Yb:=@List.mem_cons_self
abbrev Yc:=@List.mem_singleton
abbrev Yd:=@List.getElem?_eq_getElem
abbrev Ye:=@Bool.false_eq_true
abbrev Yf:=@List.mem_append_left
abbrev Yg:=@List.mem_cons
abbrev Yh:=@List.mem_of_getElem?
abbrev Yi:=@beq_eq_false_iff_ne
abbrev Yj:=@Nat.lt_or_ge
abbrev Yk:=@List.drop_eq_getElem_cons
abbrev Ym:=@List.mem_append_right
abbrev Yn:=@List.mem_append
abbrev Yo:=@congrArg
abbrev Yp:=@And.intro
abbrev Yq:=@List.length_append
abbrev Yr:=@Nat.lt_of_lt_of_le
abbrev Ys:=@List.getElem?_append_left
abbrev Yt:=@List.take_succ_eq_append_getElem
abbrev Yu:=@Option.some.injEq
abbrev Yv:=@List.length_eq_zero_iff
abbrev Yw:=@List.getElem?_append_right
abbrev Yy:=@List.getElem_mem
abbrev Yz:=@Nat.le_trans
abbrev YA:=@List.getElem?_eq_none
abbrev YB:=@List.getElem?_eq_some_iff
abbrev YC:=@List.length_cons
abbrev YD:=@List.flatMap_cons
abbrev YE:=@List.mem_map
abbrev YF:=@List.length_set
abbrev YG:=@List.take_length
abbrev YH:=@List.append_nil
abbrev YI:=@List.length_drop
abbrev YJ:=@List.nodup_append
abbrev YK:=@List.flatMap_append
abbrev YM:=@List.length_pos_iff
abbrev YN:=@List.append_assoc
abbrev YO:=@Array.getElem?_eq_none
abbrev YP:=@List.getElem?_set
abbrev YQ:=@Option.some.inj
abbrev YR:=@List.drop_eq_nil_of_le
abbrev YS:=@List.foldl_append
abbrev YT:=@List.nil_append
abbrev YU:=@List.length_map
abbrev YV:=@Nat.zero_le
abbrev YW:=@List.length_take
abbrev YX:=@List.cons_append
abbrev YY:=@List.foldl_cons
abbrev Zb:=List UInt8
abbrev Zw:=World
abbrev Zv:=Value
abbrev Za:=ByteArray
abbrev Zc:=List Zb
abbrev Zo:=List (Nat×Obj)
abbrev Zl:=List Value
abbrev Ja:List UInt8:=[116,121,112,101,100,101,102]
abbrev Jb:List UInt8:=[117,110,115,105,103,110,101,100]
abbrev Jc:List UInt8:=[112,114,111,103,114,97,109]
abbrev Jd:List UInt8:=[32,123,32]
abbrev Je:List UInt8:=[99,111,110,115,116]
abbrev Jf:List UInt8:=[115,116,114,117,99,116]
abbrev Jg:List UInt8:=[99,97,115,101]
abbrev Jh:List UInt8:=[117,110,105,111,110]
abbrev Ji:List UInt8:=[32,115,119,105,116,99,104,32,40]
abbrev Jj:List UInt8:=[112,114,111,103,114,97,109,32]
abbrev Jk:List UInt8:=[105,110,116]
abbrev Jl:List UInt8:=[125]
abbrev Jm:List UInt8:=[101,110,117,109,32]
abbrev Jn:List UInt8:=[115,119,105,116,99,104]
abbrev Jo:List UInt8:=[101,110,117,109]
abbrev Jp:List UInt8:=[115,116,114,117,99,116,32]
abbrev Jq:List UInt8:=[104,121,112,101,114]
abbrev Jr:List UInt8:=[117,110,105,111,110,32]
abbrev Js:List UInt8:=[98,111,111,108]
abbrev Jt:List UInt8:=[118,111,105,100]
abbrev Ju:List UInt8:=[115,116,114,105,110,103]
abbrev Jv:List UInt8:=[123]
abbrev Jw:List UInt8:=[118,101,114,115,105,111,110,32]
abbrev Jx:List UInt8:=[41,32,123,32]
abbrev Jy:List UInt8:=[111,112,97,113,117,101]
abbrev Jz:List UInt8:=[118,101,114,115,105,111,110]
abbrev JA:List UInt8:=[99,97,115,101,32]
abbrev JB:List UInt8:=[125,59,10]
abbrev JC:List UInt8:=[70,65,76,83,69]
abbrev JD:List UInt8:=[32,61,32]
abbrev JL:List UInt8:=[100,101,102,97,117,108,116]
abbrev JF:List UInt8:=[84,82,85,69]
abbrev JG:List UInt8:=[117,110,115,105,103,110,101,100,32,104,121,112,101,114]
abbrev JH:List UInt8:=[41,32,61,32]
abbrev JI:List UInt8:=[100,101,102,97,117,108,116,58,32]
abbrev U(a:Int):Value:=.int .i64 a
abbrev Zp(a:Nat):Value:=.pointer (some ⟨a,0,none⟩)
abbrev Zs(a:List UInt8):Value:=.string ⟨a.toArray⟩
abbrev Zh(a:World):Nat:=a.heap.size
abbrev Zd(a b:Nat):Addr:=⟨a,b,none⟩
def Zk(b:a:=by kernel_rfl):a:=b
def Zm(b:a:=by omega):a:=b
def Zq(b:a:=by simp):a:=b
def Zr(b:a:=by rfl):a:=b
def Zg(b:a:=by grind):a:=b
def Zu(b:a:=by simp_all):a:=b
def Zt(b:a:=by assumption):a:=b
def Ze(b:a:=by decide):a:=b
def Zx(b:a:=by simp;omega):a:=b
def Zn(b:a:=by unfold maxLen;omega):a:=b
def Zy(b:a:=by simp[Value.oneCell']):a:=b
def Zf(b:a:=by simp[RowKit.intOf]):a:=b
def Zz(b:a:=by simp[RowKit.intOf];omega):a:=b
def Zj(b:a:=by go_num):a:=b
end
end
def je:∀(b:Fn) (first a:Array Value) (c:World),(Instr.makeFunc b first a).run Tryz.prog c=.ok (.func b first a) c:=λ_ _ _ _=>rfl
def mS:∀(b:TypeId) (a:World),(Instr.makeMap b none).run Tryz.prog a=.ok (.map (some a.heap.size)) (a.alloc (.map #[] 0)):=λ_ _=>rfl
def Bu(b c:TypeId)(d:∀a,(Instr.typeAssert .nilIface b c true).run Tryz.prog a=.ok (.tuple #[.pointer none,.bool false]) a:=by intro a;kernel_rfl):∀a,(Instr.typeAssert .nilIface b c true).run Tryz.prog a=.ok (.tuple #[.pointer none,.bool false]) a:=d
def hE(d:TypeId)(b:Nat)(c e:TypeId)(f:∀a,(Instr.typeAssert (.iface d (.pointer (some ⟨b,0,none⟩))) c e true).run Tryz.prog a=.ok (.tuple #[.pointer none,.bool false]) a:=by intro a;kernel_rfl):∀a,(Instr.typeAssert (.iface d (.pointer (some ⟨b,0,none⟩))) c e true).run Tryz.prog a=.ok (.tuple #[.pointer none,.bool false]) a:=f
def qU(d:TypeId)(b:Nat)(c e:TypeId)(f:∀a,(Instr.typeAssert (.iface d (.pointer (some ⟨b,0,none⟩))) c e true).run Tryz.prog a=.ok (.tuple #[.pointer (some ⟨b,0,none⟩),.bool true]) a:=by intro a;kernel_rfl):∀a,(Instr.typeAssert (.iface d (.pointer (some ⟨b,0,none⟩))) c e true).run Tryz.prog a=.ok (.tuple #[.pointer (some ⟨b,0,none⟩),.bool true]) a:=f
def go(e:Value)(c d:TypeId)(f:Value)(b:Bool)(g:∀a,(Instr.typeAssert e c d true).run Tryz.prog a=.ok (.tuple #[f,.bool b]) a:=by intro a;kernel_rfl):∀a,(Instr.typeAssert e c d true).run Tryz.prog a=.ok (.tuple #[f,.bool b]) a:=g
def zT(d:TypeId)(e:∀(b c:Value) (a:World),(Instr.field d (.agg #[b,c]) 0).run Tryz.prog a=.ok b a:=by intro b c a;kernel_rfl):∀(b c:Value) (a:World),(Instr.field d (.agg #[b,c]) 0).run Tryz.prog a=.ok b a:=e
namespace Mar
def e5(a:UInt8):Bool:=(decide (97<=a.toNat)&&decide (a.toNat<=122))||(decide (65<=a.toNat)&&decide (a.toNat<=90))
def d4(a:UInt8):Bool:=decide (48<=a.toNat)&&decide (a.toNat<=57)
def c5(a:UInt8):Bool:=e5 a||d4 a||a.toNat==95
def bb:Zb->Zb
 |[]=>[]
 |c::a=>c::a.takeWhile c5
def iu:Zc:=
 [Je,Ja,Jo,Jf,Jh,
  Jn,Jg,JL,Jt,Jk,
  Jb,Jq,Js,Jy,Ju,
  Jc,Jz,JF,JC]
def et(a:Zb):Bool:=iu.contains a
def e2(a:Zb):Nat:=
 if Lib.hasPrefix a [47,42]then (if 0<=Lib.index (a.drop 2) [42,47]then (Lib.index (a.drop 2) [42,47]).toNat+4 else 0)else 0
def f4(a:UInt8):Bool:=a==32||a==9||a==10
def ek:Zb->Nat
 |[]=>0
 |a::b=>if f4 a then 1 else e2 (a::b)
def eo:Nat->Zb->Nat
 |0,_=>0
 |f+1,a=>if ek a=0 then 0 else ek a+eo f (a.drop (ek a))
def eX(a:Zb):Nat:=eo (a.length+1) a
def lp(a b:Zb)(e:b≠[])(c:0<=Lib.index a b):(Lib.index a b).toNat+b.length<=a.length:=by
 induction a with
 |nil=>
  simp_all[Lib.index]
 |cons d a f=>
  unfold Lib.index at c ⊢;grind
theorem k4(a:Zb):e2 a<=a.length:=by
 unfold e2;split
 .rename_i c;have d:=(List.isPrefixOf_iff_prefix.1 c).length_le;simp at d;split
  .rename_i b;have:=lp (a.drop 2) [42,47] Zq b;grind
  omega
 omega
theorem kk(a:Zb):ek a<=a.length:=by
 cases a<;>grind [ek,k4]
theorem m0(a:Nat)(b:Zb):eo a b<=b.length:=by
 induction a generalizing b with
 |zero=>simp[eo]
 |succ a c=>
  grind [eo,kk]
structure aX where
 F:Nat
 text:Zb
 n:Int
 y:Nat
structure ay where
 no:Nat
 y:Nat
def eB(a:Zb)(b:Nat):Except ay aX:=
 if 16<a.length then .error ⟨7,b⟩else if et a then .ok ⟨2,a,0,b⟩else .ok ⟨1,a,0,b⟩
def f7(a:Zb):Bool:=decide (1<a.length)&&a.getD 0 0==48
def fd(a:Zb):Option Int:=
 if f7 (Lib.trimPrefix a [45])then none else
 match Lib.parseIntB 64 a with
 |.ok v=>if -2147483648<=v/\v<=4294967295 then some v else none
 |_=>none
def ds(a:UInt8):Option Nat:=
 if 48<=a.toNat/\a.toNat<=57 then some (a.toNat-48)
 else if 97<=a.toNat/\a.toNat<=102 then some (a.toNat-87)
 else if 65<=a.toNat/\a.toNat<=70 then some (a.toNat-55)
 else none
def cQ:Nat->Zb->Option Nat
 |acc,[]=>some acc
 |acc,a::c=>match ds a with
  |some b=>cQ (acc*16+b) c
  |none=>none
def g0(a:Zb):Option Int:=
 if 8<a.length then none else if a=[]then none else (cQ 0 a).map Int.ofNat
def ge(a:Zb):Option Int:=if Lib.hasPrefix a [48,120]then g0 (a.drop 2)else fd a
def gQ(b:Zb)(a:Nat):Except ay aX:=
 match ge b with
 |some c=>.ok ⟨3,b,c,a⟩
 |none=>.error ⟨4,a⟩
def f9(a:UInt8):Bool:=[123,125,40,41,91,93,60,62,42,44,59,58,61].contains a
def c8(d:Zb)(b:Nat):Except ay aX:=
 match d with
 |[]=>.ok ⟨0,[],0,b⟩
 |a::c=>
  if e5 a then eB (bb (a::c)) b
  else if d4 a||a==45 then gQ (bb (a::c)) b
  else if f9 a then .ok ⟨4,[a],0,b⟩
  else .error ⟨2,b⟩
def kv{b:UInt8}{a}(c:ds b=some a):a<16:=by
 grind [ds]
end Mar
namespace Mar
structure m3 where
 F:Nat
 text:Zb
 n:Int
theorem mz{b:UInt8}(a:f9 b=true):e5 b=false/\d4 b=false/\(b==45)=false/\c5 b=false/\f4 b=false/\b≠47:=by
 simp only[f9,List.contains_eq_mem,Yg,List.not_mem_nil,or_false,decide_eq_true_eq]at a;rcases a with a|a|a|a|a|a|a|a|a|a|a|a|a<;>subst a<;>decide
end Mar
def oE{a b:Bool}(c:a=b):Ending.returned (.bool a)=.returned (.bool b):=by rw[c]
def yw{c}{a b:Int}(d:a=b):Ending.returned (.int c a)=.returned (.int c b):=by rw[d]
def KF{a b:Za}(c:a=b):Ending.returned (.string a)=.returned (.string b):=by rw[c]
def Id(a:UInt8)(b:Zw) :
  Calls prog 237 #[.int .u8 a.toNat] b λc d=>c=.returned (.bool (Mar.e5 a))/\d=b:=by
 go_in;go_wp2;all_goals
  go_ret
  refine⟨oE ?_,rfl⟩
  unfold Mar.e5
  rw[Bool.eq_iff_iff]
  simp
  try omega
def Ic(a:UInt8)(b:Zw) :
  Calls prog 240 #[.int .u8 a.toNat] b λc d=>c=.returned (.bool (Mar.d4 a))/\d=b:=by
 go_in;go_wp2;all_goals
  go_ret
  refine⟨oE ?_,rfl⟩
  unfold Mar.d4
  rw[Bool.eq_iff_iff]
  simp
  try omega
def TY(a:Za)(b:Zw) :
  Calls prog 263 #[.string a] b λc d=>c=.returned (.bool (Mar.et a.data.toList))/\d=b:=by
 rw[<-ByteArray.toList_eq];go_in;go_wp2;all_goals
  first
   |(exfalso;simp_all;done)
   |(go_ret;refine⟨oE ?_, rfl⟩;simp only[Mar.et, Mar.iu, List.contains_cons, *, Bool.true_or, Bool.false_or, Bool.or_true, List.contains_nil])
section
variable {n : Array Oper} {f : Oper} {e : Act} {Q : Exit -> Act -> Zw -> Prop} {c : Zw} {j k : Operand} {i d o : TypeId} {m v : Zv} {g b h a B H : Nat} {l : Zl}
def kl{rest:List Oper}(w:(prog.info? d).map (λr=>(r.zero,r.size,r.bytes))=some (some m,b,h))(N:prog.underlying i=some (.slice d))(L:c.ownsRow g d b v a l)(p:Zl)(F:c.heap[B]? = some (.cells p.toArray o))(y:∀S∈p,S.oneCell'=true)(J:(a+1)*h<=140737488355328)(O:g<=c.heap.size)(E:c.heap.size=H)
  (x:∀q t s,s.ownsRow g d b (.slice (some ⟨q,0,none⟩) (a+1) t) (a+1) (l++p)->c.grownBy s v.ownBlock->(v.ownBlock=some q\/q=H)->q<s.heap.size->wpList prog n Q rest (e.put f.dst (.slice (some ⟨q,0,none⟩) (a+1) t)) s)
  (G:f.guard=none:=by rfl) (K:f.op=.call { callee:=.builtin .append,args:=#[j,k],argTypes:=#[i,i] }:=by rfl) (M:e.eval j=v:=by rfl) (P:e.eval k=.slice (some ⟨B,0,none⟩) 1 1:=by rfl) (R:m.cells.size=b:=by rfl) (I:p.length=1*b:=by rfl) (u:(0<b/\0<h):=by decide):wpList prog n Q (f::rest) e c:=by
 obtain⟨r,z,A,C,D⟩:=info_parts w;have:=Nat.le_mul_of_pos_right (a+1) u.2;exact wpList_append_lies c G j k i K g d r m b h N z A C D R u.1 v a l M L ⟨B,0,none⟩ 1 1 p P I (World.news_of_block (cs:=p.toArray) F) y (by omega) (by unfold maxLen;omega) J O H E x
def mC{t:Act->Zw->Prop}{x:Prop}(y:(prog.info? d).map (λr=>(r.zero,r.size,r.bytes))=some (some m,b,h))(P:prog.underlying i=some (.slice d))(N:c.ownsRow g d b v a l)(p:Zl)(I:c.heap[B]? = some (.cells p.toArray o))(A:∀a1∈p,a1.oneCell'=true)(L:(a+1)*h<=140737488355328)(R:g<=c.heap.size)(G:c.heap.size=H)
  (z:∀q u s,s.ownsRow g d b (.slice (some ⟨q,0,none⟩) (a+1) u) (a+1) (l++p)->c.grownBy s v.ownBlock->(v.ownBlock=some q\/q=H)->q<s.heap.size->t (e.put f.dst (.slice (some ⟨q,0,none⟩) (a+1) u)) s)
  (J:f.guard=none:=by rfl) (M:f.op=.call { callee:=.builtin .append,args:=#[j,k],argTypes:=#[i,i] }:=by rfl) (O:e.eval j=v:=by rfl) (S:e.eval k=.slice (some ⟨B,0,none⟩) 1 1:=by rfl) (a0:m.cells.size=b:=by rfl) (K:p.length=1*b:=by rfl) (w:(0<b/\0<h):=by decide):if Region.wanted f (yielded n e.tmps)=true then Oper.wp prog f e c t Q else x:=by
 obtain⟨r,C,D,E,F⟩:=info_parts y;have:=Nat.le_mul_of_pos_right (a+1) w.2;exact step_append_lies c J j k i M g d r m b h P C D E F a0 w.1 v a l O N ⟨B,0,none⟩ 1 1 p S K (World.news_of_block (cs:=p.toArray) I) A (by omega) (by unfold maxLen;omega) L R H G z
end
section
variable {a:UInt8}
theorem aa{a:Prop}(b:a):af a:=b
def BO(a:Za)(b:Zw)(e:a.size<=281474976710656) :
  Calls prog 242 #[.string a] b λc d=>c=.returned (.string a)/\Below b.heap.size b d:=by
 go_in;go_wp2_with (go_at_call 266;refine(Tryz.stringslite_Clone _ _ e).mono ?_;rintro c d ⟨rfl,f⟩);go_ret;simp_all
def Eo(e:Za)(b:Nat)(p:1<=b)(g:b<=e.size)(h:∀c (j:c<e.size),1<=c->c<b->Mar.c5 e[c]=true)
  (i:∀k:b<e.size,Mar.c5 e[b]=false):Mar.bb e.data.toList=e.data.toList.take b:=by
 obtain⟨⟨d⟩⟩:=e;replace g:b<=d.length:=g;replace h:∀c (j:c<d.length),1<=c->c<b->Mar.c5 d[c]=true:=h;replace i:∀k:b<d.length,Mar.c5 d[b]=false:=i;show Mar.bb d=d.take b;cases d with
 |nil=>simp_all
 |cons a f=>
  obtain⟨b,rfl⟩:∃o,b=o+1:=⟨b-1,Zm⟩;simp only[Mar.bb,List.take_succ_cons,List.cons.injEq,true_and];simp only[YC]at g;have m:∀l∈f.take b,Mar.c5 l=true:=by
   intro l n;obtain⟨c,j,rfl⟩:=List.getElem_of_mem n;grind
  conv=>lhs;rw[<-List.take_append_drop b f]
  rw[List.takeWhile_append_of_pos m];have:(f.drop b).takeWhile Mar.c5=[]:=by
   by_cases k:b<f.length
   .grind [List.drop_eq_getElem_cons,List.takeWhile_cons_of_neg]
   simp_all[List.drop_of_length_le]
  simp_all
def TD(b:Mar.e5 a=true):Mar.c5 a=true:=by simp[Mar.c5,b]
def TC(b:Mar.d4 a=true):Mar.c5 a=true:=by simp[Mar.c5,b]
def TE(b:((a.toNat:Int)==95)=true):Mar.c5 a=true:=by
 grind [Mar.c5]
def TF(b:¬Mar.e5 a=true)(c:¬Mar.d4 a=true)(d:((a.toNat:Int)==95)=false):Mar.c5 a=false:=by
 grind [Mar.c5]
def CP(b:Za)(a:Nat):b.extract 0 a=⟨(b.data.toList.take a).toArray⟩:=by
 apply ByteArray.ext;simp only[ByteArray.data_extract];grind
def aa6(b:Za)(i:Zw)(v:b.size<=281474976710656)(t:0<b.size) :
  Calls prog 239 #[.string b] i λd j=>d=.returned (.string ⟨(Mar.bb b.data.toList).toArray⟩)/\Below i.heap.size i j:=by
 go_in;go_wp2;go_loop [3] (λh=>∃c:Nat,1<=c/\c<=b.size/\h=U c/\∀a (e:a<b.size),1<=a->a<c->Mar.c5 b[a]=true) (λh=>b.size-(intOf h).toNat);case atStart=>grind
 case round=>
  obtain⟨c,k,l,rfl,p⟩:=hrel;have f:af (∀a (e:a<b.size),1<=a->a<c->Mar.c5 b[a]=true):=p;have m:(b.extract 0 c).size<=281474976710656:=Zx;by_cases q:c<b.size
  .have r:Mar.c5 b[c]=true->af (∀a (e:a<b.size),1<=a->a<c+1->Mar.c5 b[a]=true):=by
    intro w a e o u;by_cases d:a=c
    .simp_all
    .exact f.w a e o Zm
   have lO:=aa r;go_wp2_with (first
     |(go_at_call 237;refine(Id _ _).mono ?_;rintro d j ⟨rfl,rfl⟩)
     |(go_at_call 240;refine(Ic _ _).mono ?_;rintro d j ⟨rfl,rfl⟩)
     |(go_at_call 242;refine(BO _ _ m).mono ?_;rintro d s ⟨rfl,g⟩))
   .exact⟨⟨c+1,Zm,Zm,Zr,(lO.w (TD ‹_›)).w⟩,Zz⟩
   .exact⟨⟨c+1,Zm,Zm,Zr,(lO.w (TC ‹_›)).w⟩,Zz⟩
   .exact⟨⟨c+1,Zm,Zm,Zr,(lO.w (TE ‹_›)).w⟩,Zz⟩
   .go_ret;refine⟨KF ?_,g⟩;rw[CP,Eo b c k l f.w (λ_=>TF ‹_› ‹_› ‹_›)]
  .go_wp2_with (go_at_call 242;refine(BO _ _ m).mono ?_;rintro d s ⟨rfl,g⟩);go_ret;refine⟨KF ?_,g⟩;rw[CP,Eo b c k l f.w (λn=>absurd n q)]
end
section
variable {f:Nat}{l:Zb}
def Qi(a:(!Lib.hasPrefix l [47,42])=true):Mar.e2 l=0:=by
 grind [Mar.e2]
theorem Mh{a}(b:(!Lib.hasPrefix l a)=false):Lib.trimPrefix l a=l.drop a.length:=by
 grind [Lib.trimPrefix]
theorem Qk(a:(!Lib.hasPrefix l [47,42])=false)(b:(!(Lib.cut (Lib.trimPrefix l [47,42]) [42,47]).snd.snd)=true):Mar.e2 l=0:=by
 grind [Mh,Lib.cut,Mar.e2]
def Ql(a:(!Lib.hasPrefix l [47,42])=false)(b:(!(Lib.cut (Lib.trimPrefix l [47,42]) [42,47]).snd.snd)=false) :
  2+((Lib.cut (Lib.trimPrefix l [47,42]) [42,47]).fst.length:Int)+2=(Mar.e2 l:Int):=by
 rw[Mh a]at b ⊢;simp at a;unfold Lib.cut at b ⊢;by_cases c:0<=Lib.index (l.drop 2) [42,47]
 .have:=Mar.lp (l.drop 2) [42,47] Zq c;grind [Mar.e2]
 simp_all
def Qv(l a:Zb):(Lib.cut l a).fst.length<=l.length:=by
 grind [Lib.cut]
def ET(l a:Zb):(Lib.trimPrefix l a).length<=l.length:=by
 grind [Lib.trimPrefix]
def Qm(a:Za)(f:Int)(d:Zw)(j:a.size<4294967281)(h:d.cell? (Zd 2 0)=some (U f)) :
  Calls prog 235 #[.string a] d λc e=>c=.returned (U (Mar.e2 a.data.toList))/\∃b,e=d.drewN b:=by
 have k:a.size=a.data.toList.length:=Zq;have g:(⟨(Lib.trimPrefix a.data.toList [47,42]).toArray⟩:Za).size<4294967281:=by
  have:=ET a.data.toList [47,42];show (Lib.trimPrefix a.data.toList [47,42]).toArray.size<_;grind
 have i:((Lib.cut (Lib.trimPrefix a.data.toList [47,42]) [42,47]).fst.length:Int)<=4294967281:=by
  have:=ET a.data.toList [47,42];have:=Qv (Lib.trimPrefix a.data.toList [47,42]) [42,47];omega
 go_in;go_wp2_with (first
  |(go_at_call 260;refine(Tryz.strings_CutPrefix _ _ _).mono ?_;rintro c e ⟨rfl,rfl⟩)
  |(go_at_call 261;refine(Tryz.strings_Cut _ _ f _ g h).mono ?_;rintro c e ⟨rfl,b,rfl⟩))
 .go_ret;exact⟨yw (by rw[Qi ‹_›];rfl),0,rfl⟩
 .go_ret;exact⟨yw (by grind [Qk]),b,rfl⟩
 .go_ret;exact⟨yw (Ql ‹_› ‹_›),b,rfl⟩
def Px(a:UInt8):(0<=Lib.indexByte [32,9,10] ((a.toNat:Int).toNat.toUInt8))↔Mar.f4 a=true:=by
 have:((a.toNat:Int).toNat.toUInt8)=a:=Zq;rw[this];unfold Mar.f4;simp only[Lib.indexByte];grind
theorem Co(a:UInt8):(0<=Lib.indexByte [32,9,10] a)↔Mar.f4 a=true:=by
 have:=Px a;simp_all
def CO(a:Za)(b:Nat):(a.extract b a.size).data.toList=a.data.toList.drop b:=by
 have c:a.size=a.data.toList.length:=Zq;simp_all[List.take_of_length_le]
def CY{a:Nat}(b:a<l.length)(c:Mar.f4 l[a]=true):Mar.ek (l.drop a)=1:=by
 grind [List.drop_eq_getElem_cons,Mar.ek]
theorem CZ{a:Nat}(b:a<l.length)(c:¬Mar.f4 l[a]=true):Mar.ek (l.drop a)=Mar.e2 (l.drop a):=by
 grind [List.drop_eq_getElem_cons,Mar.ek]
theorem Lx{a}(c:(l.drop a).length<f)(b:Mar.ek (l.drop a)=0):Mar.eo f (l.drop a)=0:=by
 cases f<;>grind [Mar.eo]
def Lw{k a:Nat}(e:(l.drop k).length<f)(c:Mar.ek (l.drop k)=a)(g:a≠0) :
  ∃b,(l.drop (k+a)).length<b/\Mar.eo f (l.drop k)=a+Mar.eo b (l.drop (k+a)):=by
 cases f with
 |zero=>omega
 |succ f=>
  have d:=Mar.kk (l.drop k);rw[c]at d;refine⟨f,?_,?_⟩;all_goals grind [Mar.eo,List.drop_drop]
def acb(a:Za)(w:Int)(l:Zw)(I:a.size<4294967281)(H:l.cell? (Zd 2 0)=some (U w)) :
  Calls prog 182 #[.string a] l λp m=>p=.returned (U (Mar.eX a.data.toList))/\∃c,m=l.drewN c:=by
 have y:af (a.size=a.data.toList.length):=Zr;go_in;go_wp2;go_loopw [3] (λs m=>∃b f c:Nat,b<=a.size/\s=U b/\m=l.drewN c/\(a.data.toList.drop b).length<f/\Mar.eX a.data.toList=b+Mar.eo f (a.data.toList.drop b)) (λs _=>a.size-(intOf s).toNat)
 case atStart=>exact⟨0,a.data.toList.length+1,0,Zm,rfl,rfl,Zq,by simp[Mar.eX]⟩
 case round=>
  obtain⟨b,f,c,F,rfl,rfl,A,D⟩:=hrel;have u:af ((a.data.toList.drop b).length<f):=A;have o:af (Mar.eX a.data.toList=b+Mar.eo f (a.data.toList.drop b)):=D;by_cases G:b<a.size
  .have C:b<a.data.toList.length:=Zu;have q:=Qm (a.extract b a.size) w (l.drewN c) Zx Zu;rw[CO]at q;have r:=Mar.k4 (a.data.toList.drop b);simp only[YI]at r;rw[<-y.w]at r;obtain⟨e,v⟩:∃e,af (Mar.e2 (a.data.toList.drop b)=e):=⟨_,rfl⟩;rw[v.w]at q r;have x:=aa q;have n:=aa C;have kU:∀g:Nat,Mar.ek (a.data.toList.drop b)=g->g≠0->af (∃d,(a.data.toList.drop (b+g)).length<d/\Mar.eX a.data.toList=(b+g:Nat)+Mar.eo d (a.data.toList.drop (b+g))):=by
    intro g B h;obtain⟨d,i,j⟩:=Lw u.w B h;exact⟨d,i,by rw[o.w,j];omega⟩
   have Fin:=aa kU;have E:a[b]=a.data.toList[b]'(n.w):=Zr;have z:=aa E;go_wp2_with (first
    |(go_at_call 235;refine x.w.mono ?_;rintro p m ⟨rfl,t,rfl⟩)
    |(go_at_call 236;refine(Tryz.strings_IndexByte _ _ _).mono ?_;rintro p m ⟨rfl,rfl⟩))
   .obtain⟨d,i,j⟩:=(Fin.w 1 (CY n.w (by grind [af.w,Co])) Zm).w;exact⟨⟨b+1,d,c+t,Zm,Zr,rfl,i,j⟩,Zz⟩
   .go_ret;have h:e=0:=Zu;have k:¬Mar.f4 a[b]=true:=λk=>by have:=(Co _).2 k;omega
    refine⟨yw ?_,c+t,rfl⟩;rw[o.w,Lx u.w (by rw[CZ n.w (by rw[<-z.w];omega),v.w,h])];rfl
   .have h:e≠0:=Zu;have k:¬Mar.f4 a[b]=true:=λk=>by have:=(Co _).2 k;omega
    obtain⟨d,i,j⟩:=(Fin.w e (by grind [CZ,af.w]) h).w;exact⟨⟨b+e,d,c+t,Zm,Zr,rfl,i,j⟩,Zz⟩
  .go_wp2;go_ret;refine⟨yw ?_,c,rfl⟩;have:a.data.toList.drop b=[]:=List.drop_of_length_le Zu;rw[o.w,this];have:∀f,Mar.eo f []=0:=by intro f;cases f<;>simp[Mar.eo,Mar.ek]
   simp_all
end
end Go.Proofs.YtjdhaegijjednaaGreatDoor
namespace Go.Proofs.YtjdhaegijjednaaGreatDoor
open Go.RowKit
open Go.Lib (occAt)
open Go.Proofs.Tryz
section
variable {b a:Zb}{c:Nat}
def Xg(a:c+1<b.length):occAt b [42,47] c=(b[c]==42&&b[c+1]==47):=by
 grind [occAt,List.drop_eq_getElem_cons]
def Qh(f:c+1<b.length)(e:∀a,a<c->occAt b [42,47] a=false)(d:occAt b [42,47] c=true):Lib.index b [42,47]=c:=Lib.index_first Zm d e
def Qj(i:∀a,a<c->occAt b [42,47] a=false)(h:b.length<=c+1):Lib.index b [42,47] = -1:=by
 refine Lib.index_none (λa g=>?_);rcases Yj a c with d|d
 .simp_all
 .cases f:occAt b [42,47] a with
  |false=>rfl
  |true=>
   rcases Lib.occAt_room f with e|e;all_goals grind
def Qg{b:Nat}(c:b+1<a.length)(d:a[b]=47)(e:a[b+1]=42):Mar.e2 (a.drop b)=if 0<=Lib.index (a.drop (b+2)) [42,47]then (Lib.index (a.drop (b+2)) [42,47]).toNat+4 else 0:=by
 have f:Lib.hasPrefix (a.drop b) [47,42]=true:=by
  grind [Lib.hasPrefix,List.drop_eq_getElem_cons]
 simp_all[Mar.e2]
def CD{b:Nat}(d:b<a.length)(e:∀(c:b+1<a.length),¬(a[b]=47/\a[b+1]=42)):Mar.e2 (a.drop b)=0:=by
 have f:Lib.hasPrefix (a.drop b) [47,42]=false:=by
  unfold Lib.hasPrefix;rw[Yk d];rcases Yj (b+1) a.length with c|c
  .rw[Yk c];grind
  grind
 grind [Mar.e2]
def gj(a:Zb)(b:Nat):Nat:=b+Mar.eX (a.drop b)
theorem aca{b:Zb}:∀{a c:Nat},b.length<a->b.length<c->Mar.eo a b=Mar.eo c b:=by
 intro a;induction a generalizing b with
 |zero=>omega
 |succ a f=>
  intro c d e;cases c<;>grind [Mar.eo,Mar.kk]
def HF{b}(c:Mar.ek (a.drop b)=0):gj a b=b:=by
 grind [gj,Mar.eX,Lx]
def SU{k b:Nat}(c:Mar.ek (a.drop k)=b)(d:b≠0):gj a k=gj a (k+b):=by
 unfold gj Mar.eX;obtain⟨e,g,h⟩:=Lw (l:=a) (k:=k) (f:=(a.drop k).length+1) Zm c d;grind [aca]
def ST{b:Nat}(c:a.length<=b):gj a b=b:=by
 refine HF ?_;rw[List.drop_eq_nil_iff.2 c];rfl
end
end Go.Proofs.YtjdhaegijjednaaGreatDoor
namespace Go.Proofs.YtjdhaegijjednaaGreatDoor
open Go.Lib (parseUintM parseUintB parseIntB)
open Go.Proofs.Tryz
def lW:Nat->Zb->Option Nat
 |acc,[]=>some acc
 |acc,a::b=>if Mar.d4 a then lW (acc*10+(a.toNat-48)) b else none
def hT(a:Zb)(c:Bool):Option Int:=
 if 2<a.length/\a.getD 0 0=48/\a.getD 1 0=120 then (if c=true\/10<a.length then none else (Mar.cQ 0 (a.drop 2)).map Int.ofNat)
 else if a=[]\/10<a.length\/(1<a.length/\a.getD 0 0=48)then none
 else match lW 0 a with
  |none=>none
  |some b=>if c then (if b<=2147483648 then some (-(b:Int))else none)else (if b<=4294967295 then some (b:Int)else none)
theorem Ac(a:UInt8):Mar.d4 a=true↔48<=a.toNat/\a.toNat<=57:=by simp[Mar.d4]
def XK:∀(d:Zb) (a:Nat),a*10 ^ d.length+10 ^ d.length<=10000000000000000000->parseUintM 18446744073709551615 a d=match lW a d with|some u=>.ok u|none=>.syntax:=by
 intro d;induction d with
 |nil=>intro a _;rfl
 |cons c b m=>
  intro a g;have l:1<=10 ^ b.length:=Nat.one_le_pow _ _ Zm;rw[YC,Nat.pow_succ]at g;by_cases e:48<=c.toNat/\c.toNat<=57
  .have k:a*10<=a*(10 ^ b.length*10):=Nat.mul_le_mul_left _ Zm;have i:a<1000000000000000000:=Zm;have j:(a*10+(c.toNat-48))*10 ^ b.length+10 ^ b.length<=10000000000000000000:=by
    have f:(a*10+(c.toNat-48))*10 ^ b.length+10 ^ b.length=(a*10+(c.toNat-48)+1)*10 ^ b.length:=Zg;have h:a*(10 ^ b.length*10)+10 ^ b.length*10=(a*10+10)*10 ^ b.length:=Zg;rw[f];refine Yz (Nat.mul_le_mul_right _ (by omega:a*10+(c.toNat-48)+1<=a*10+10)) ?_;omega
   simp only[parseUintM,lW];rw[Y9 e,Y2 Zm,Y2 Zm,Y9 ((Ac c).2 e)];simp_all
  simp_all[parseUintM,lW,Y2,Ac]
def XJ:∀(c:Zb) (b d:Nat),parseUintM 18446744073709551615 b c=.ok d->b*10 ^ c.length<=d:=by
 intro c;induction c with
 |nil=>intro b d a;cases a;simp
 |cons e g f=>
  intro b d a;simp only[parseUintM]at a;split at a
  .split at a
   .cases a
   .split at a
    .cases a
    grind [Nat.mul_comm,Nat.mul_assoc]
  grind
def Ks{c:Zb}(h:10<c.length)(i:c.getD 0 0≠48){e}(a:parseUintB 64 c=.ok e):10000000000<=e:=by
 cases c with
 |nil=>grind
 |cons b d=>
  have f:b≠48:=Zu;unfold Lib.parseUintB at a;rw[Y2 Zq]at a;have a:parseUintM 18446744073709551615 0 (b::d)=.ok e:=a;simp only[parseUintM]at a;split at a
  .rename_i l;have k:1<=b.toNat-48:=by
    have:b.toNat≠48:=λg=>f (UInt8.toNat_inj.1 Zu);omega
   split at a
   .omega
   .split at a
    .omega
    .have:=XJ _ _ _ a;have j:10 ^ 10<=10 ^ d.length:=Nat.pow_le_pow_right Zm Zg;have:1*10 ^ d.length<=(0*10+(b.toNat-48))*10 ^ d.length:=Nat.mul_le_mul_right _ Zm;omega
  simp_all
def Mp{a:Zb}(b:a≠[])(c:¬10<a.length):parseUintB 64 a=match lW 0 a with|some u=>.ok u|none=>.syntax:=by
 unfold Lib.parseUintB;rw[Y2 b];refine XK a 0 ?_;have:10 ^ a.length<=10 ^ 10:=Nat.pow_le_pow_right Zm Zm;omega
theorem AI(a:Zb):Mar.f7 a=true↔(1<a.length/\a.getD 0 0=48):=by simp[Mar.f7]
def Xd{a:UInt8}{b:Zb}(l:Mar.d4 a=true):Mar.ge (a::b)=hT (a::b) false:=by
 have u:=(Ac a).1 l;have h:¬(a.toNat=43\/a.toNat=45):=Zm;have t:a≠45:=λc=>by simp_all
 by_cases d:Lib.hasPrefix (a::b) [48,120]=true
 .obtain⟨q,v⟩:=List.isPrefixOf_iff_prefix.1 d;have c:a::b=48::120::q:=Zu;rw[c];unfold Mar.ge hT;rw[c]at d;rw[Y9 d];unfold Mar.g0;simp only[List.drop_succ_cons,List.drop_zero,YC];grind
 .have w:Lib.hasPrefix (a::b) [48,120]=false:=Zu;have n:¬(2<(a::b).length/\(a::b).getD 0 0=48/\(a::b).getD 1 0=120):=by
   rintro⟨s,f,g⟩;cases b with
   |nil=>grind
   |cons r b=>
    simp at f g;subst f g;exact d rfl
  have o:Lib.trimPrefix (a::b) [45]=a::b:=by
   unfold Lib.trimPrefix Lib.hasPrefix;grind
  unfold Mar.ge hT Mar.fd;rw[Y2 Zm,Y2 n,o];by_cases i:Mar.f7 (a::b)=true
  .simp_all[AI]
  .rw[Y2 i];have m:¬(1<(a::b).length/\(a::b).getD 0 0=48):=λj=>i ((AI _).2 j);by_cases e:10<(a::b).length
   .rw[Y9 (Ya (Y8 e))];have k:(a::b).getD 0 0≠48:=λc=>m ⟨Zm,c⟩;unfold Lib.parseIntB;simp only[Y2 h];cases p:parseUintB 64 (a::b)with
    |«syntax»=>rfl
    |range=>rfl
    |ok x=>
     have:=Ks e k p;grind
   .rw[Y2 Zu];unfold Lib.parseIntB;simp only[Y2 h];rw[Mp Zq e];grind
def Xb(a:Zb):Mar.ge (45::a)=hT a true:=by
 have m:Lib.hasPrefix (45::a) [48,120]=false:=Zr;have k:Lib.trimPrefix (45::a) [45]=a:=Zr;unfold Mar.ge Mar.fd;rw[Y2 Zu,k];by_cases d:Mar.f7 a=true
 .simp_all[AI,hT]
 .rw[Y2 d];have e:¬(1<a.length/\a.getD 0 0=48):=λb=>d ((AI _).2 b);have j:¬(2<a.length/\a.getD 0 0=48/\a.getD 1 0=120):=λb=>e ⟨Zm,b.2.1⟩;unfold hT;rw[Y2 j];unfold Lib.parseIntB;have i:(45:UInt8).toNat=45:=rfl;simp only[i,or_true,if_true]
  by_cases f:a=[]
  .subst f;rfl
  .by_cases c:10<a.length
   .rw[Y9 (Ya (Y8 c))];have h:a.getD 0 0≠48:=λg=>e ⟨Zm,g⟩;cases l:parseUintB 64 a with
    |«syntax»=>rfl
    |range=>rfl
    |ok n=>
     have:=Ks c h l;grind
   .rw[Y2 Zu,Mp f c];grind
end Go.Proofs.YtjdhaegijjednaaGreatDoor
namespace Go.Proofs.YtjdhaegijjednaaGreatDoor
open Go.RowKit Go.MapKept Go.Proofs.Tryz
def Ir(a:UInt8)(b:Zw) :
  Calls prog 137 #[.int .u8 a.toNat] b λc d=>c=.returned (.bool (Mar.e5 a))/\d=b:=by
 go_in;go_wp2;all_goals
  go_ret
  refine⟨oE ?_,rfl⟩
  unfold Mar.e5
  rw[Bool.eq_iff_iff]
  simp
  try omega
def CK(a:UInt8)(b:Zw) :
  Calls prog 138 #[.int .u8 a.toNat] b λc d=>c=.returned (.bool (Mar.d4 a))/\d=b:=by
 go_in;go_wp2;all_goals
  go_ret
  refine⟨oE ?_,rfl⟩
  unfold Mar.d4
  rw[Bool.eq_iff_iff]
  simp
  try omega
def Ue(a:Za)(b:Zw) :
  Calls prog 139 #[.string a] b λc d=>c=.returned (.bool (Mar.et a.data.toList))/\d=b:=by
 rw[<-ByteArray.toList_eq];go_in;go_wp2;all_goals
  first
   |(exfalso;simp_all;done)
   |(go_ret;refine⟨oE ?_, rfl⟩;simp only[Mar.et, Mar.iu, List.contains_cons, *, Bool.true_or, Bool.false_or, Bool.or_true, List.contains_nil])
def nh(b:UInt8)(a:Nat)(d:a<256):((b.toNat:Int)==(a:Int))=(b==UInt8.ofNat a):=by
 rw[Bool.eq_iff_iff];simp only[beq_iff_eq];constructor
 .intro c;apply UInt8.toNat_inj.1;simp;omega
 .intro c;subst c;simp;omega
def SV(a:Zb)(j:Nat)(a0:j<=a.length)(c0:a.length<=1000000)(x:Zw) :
  Calls prog 136 #[Zs a,U j] x λk a3=>k=.returned (U (gj a j))/\a3=x:=by
 go_in;go_wp21;go_loopw [1] (λe w=>∃b:Nat,e=U b/\b<=a.length/\af (gj a j=gj a b)/\w=x) (λe _=>a.length-(intOf e).toNat)
 case atStart=>exact⟨j,rfl,a0,rfl,rfl⟩
 case round=>
  obtain⟨b,rfl,b7,q,rfl⟩:=hrel;rcases Yj b a.length with i|O
  .have b1:(0:Int)<=(b:Int):=Zm;have b2:(b:Int)<(a.length:Int):=Zm;have a7:(⟨a.toArray⟩:Za)[b]'(by grind [ByteArray.size])=a[b]:=rfl;have p:Mar.ek (a.drop b)≠0->af (gj a j=gj a (b+Mar.ek (a.drop b))):=λd=>q.w.trans (SU rfl d);have m:Mar.ek (a.drop b)=0->af (gj a j=b):=λd=>q.w.trans (HF d);by_cases f:Mar.f4 a[b]=true
   .have o:=p (by rw[CY i f];omega);rw[CY i f]at o;have M:a[b].toNat=32\/a[b].toNat=9\/a[b].toNat=10:=by
     simp only[Mar.f4,Bool.or_eq_true,beq_iff_eq]at f;rcases f with(d|d)|d<;>(rw[d];simp)
    rcases M with d|d|d
    .have n:(a[b].toNat:Int)=32:=Zm;go_wp2;exact⟨⟨b+1,Zr,i,o,trivial⟩,Zz⟩
    .have n:(a[b].toNat:Int)=9:=Zm;go_wp2;exact⟨⟨b+1,Zr,i,o,trivial⟩,Zz⟩
    .have n:(a[b].toNat:Int)=10:=Zm;go_wp2;exact⟨⟨b+1,Zr,i,o,trivial⟩,Zz⟩
   .have P:=CZ i f;rw[P]at p m;have c3:((a[b].toNat:Int)==32)=false:=by
     simp only[Mar.f4,Bool.or_eq_true,beq_iff_eq,not_or]at f;have:a[b].toNat≠32:=λk=>f.1.1 (UInt8.toNat_inj.1 Zu);grind
    have c4:((a[b].toNat:Int)==9)=false:=by
     simp only[Mar.f4,Bool.or_eq_true,beq_iff_eq,not_or]at f;have:a[b].toNat≠9:=λk=>f.1.2 (UInt8.toNat_inj.1 Zu);grind
    have c2:((a[b].toNat:Int)==10)=false:=by
     simp only[Mar.f4,Bool.or_eq_true,beq_iff_eq,not_or]at f;have:a[b].toNat≠10:=λk=>f.2 (UInt8.toNat_inj.1 Zu);grind
    by_cases v:a[b]=47
    .have G:((a[b].toNat:Int) != 47)=false:=Zu;rcases Yj (b+1) a.length with n|n
     .have b8:(0:Int)<=(b:Int)+1:=Zm;have b9:(b:Int)+1<(a.length:Int):=Zm;have a1:¬((a.length:Int)<=(b:Int)+1):=Zm;have a8:(⟨a.toArray⟩:Za)[b+1]'(by grind [ByteArray.size])=a[b+1]:=rfl;by_cases u:a[b+1]=42
      .have F:((a[b+1].toNat:Int) != 42)=false:=Zu;have N:=Qg n v u;rw[N]at p m;have E:=aa p;have D:=aa m;have lY:(a.drop (b+2)).length=a.length-(b+2):=YI;go_wp21;go_loopw [6] (λt w=>∃e c:Nat,af (c=b+2+e)/\t=U (c:Int)/\c<=a.length/\af (∀g,g<e->Lib.occAt (a.drop (b+2)) [42,47] g=false)/\w=wr) (λt _=>a.length-(intOf t).toNat)
       case atStart=>exact⟨0,b+2,rfl,rfl,Zm,(λg d=>by omega),rfl⟩
       case round=>
        obtain⟨e,c,l,rfl,b0,r,rfl⟩:=hrel;rcases Yj (c+1) a.length with L|L
        .have b4:(0:Int)<=(c:Int):=Zm;have b5:(c:Int)<(a.length:Int):=Zm;have b6:(0:Int)<=(c:Int)+1:=Zm;have R:(c:Int)+1<(a.length:Int):=Zm;have S:¬((a.length:Int)<=(c:Int)+1):=Zm;have a5:(⟨a.toArray⟩:Za)[c]'(by simp[ByteArray.size];omega)=a[c]:=rfl;have a6:(⟨a.toArray⟩:Za)[c+1]'(by simp[ByteArray.size];omega)=a[c+1]:=rfl;have c1:Lib.occAt (a.drop (b+2)) [42,47] e=(a[c]==42&&a[c+1]==47):=by
          have a2:=l.w;subst a2;rw[Xg Zm];simp only[List.getElem_drop];rfl
         have y:Lib.occAt (a.drop (b+2)) [42,47] e=false->af (∀g,g<e+1->Lib.occAt (a.drop (b+2)) [42,47] g=false):=by
          intro d g b3;rcases Yj g e with z|z
          .exact r.w g z
          .have:g=e:=Zm;simp_all
         by_cases J:a[c]=42
         .have H:((a[c].toNat:Int) != 42)=false:=Zu;by_cases K:a[c+1]=47
          .have I:((a[c+1].toNat:Int) != 47)=false:=Zu;have A:Lib.index (a.drop (b+2)) [42,47]=e:=Qh (by have:=l.w;omega) r.w Zu;have B:=E.w Zu;rw[A,Y9 Zm]at B;have C:af (gj a j=gj a (c+2)):=by
            show _=_;rw[B.w];have:=l.w;congr 1;omega
           go_wp2;refine⟨⟨c+2,Zr,Zm,C,trivial⟩,by have:=l.w;simp[intOf];omega⟩
          .have I:((a[c+1].toNat:Int) != 47)=true:=by
            have:a[c+1].toNat≠47:=λk=>K (UInt8.toNat_inj.1 Zu);simp;omega
           have s:=y Zu;go_wp2;exact⟨⟨e+1,c+1,(by have:=l.w;show _=_;omega),Zr,Zm,s,trivial⟩,Zz⟩
         .have H:((a[c].toNat:Int) != 42)=true:=by
           have:a[c].toNat≠42:=λk=>J (UInt8.toNat_inj.1 Zu);simp;omega
          have s:=y Zu;go_wp2;exact⟨⟨e+1,c+1,(by have:=l.w;show _=_;omega),Zr,Zm,s,trivial⟩,Zz⟩
        .have R:¬((c:Int)+1<(a.length:Int)):=Zm;have S:(a.length:Int)<=(c:Int)+1:=Zm;have A:Lib.index (a.drop (b+2)) [42,47] = -1:=Qj r.w (by have:=l.w;omega);have h:=D.w Zu;go_wp2;go_ret;exact⟨by rw[h.w];rfl,rfl⟩
      .have F:((a[b+1].toNat:Int) != 42)=true:=by
        have:a[b+1].toNat≠42:=λk=>u (UInt8.toNat_inj.1 Zu);grind
       have h:=m (CD i (λ_ d=>u d.2));go_wp2;go_ret;exact⟨by rw[h.w];rfl,rfl⟩
     .have a1:(a.length:Int)<=(b:Int)+1:=Zm;have h:=m (CD i (λa4=>by omega));go_wp2;go_ret;exact⟨by rw[h.w];rfl,rfl⟩
    .have G:((a[b].toNat:Int) != 47)=true:=by
      have:a[b].toNat≠47:=λk=>v (UInt8.toNat_inj.1 Zu);grind
     have h:=m (CD i (λ_ d=>v d.1));go_wp2;go_ret;exact⟨by rw[h.w];rfl,rfl⟩
  .have h:af (gj a j=b):=q.w.trans (ST O);have a9:¬((b:Int)<(a.length:Int)):=Zm;go_wp2;go_ret;exact⟨by rw[h.w];rfl,rfl⟩
def uz(b:Option Nat):Int:=match b with
 |some a=>(a:Int)
 |none=>-1
def Tw(a:UInt8)(i:Zw) :
  Calls prog 213 #[.int .u8 a.toNat] i λj k=>j=.returned (U (uz (Mar.ds a)))/\k=i:=by
 have l:=a.toNat_lt;go_in;by_cases c:48<=a.toNat/\a.toNat<=57
 .have b:af (uz (Mar.ds a)=(a.toNat:Int)-48):=by
   show _=_;unfold Mar.ds;rw[Y9 c];show ((a.toNat-48:Nat):Int)=_;omega
  have e:(48:Int)<=a.toNat:=Zm;have f:(a.toNat:Int)<=57:=Zm;have g:IntKind.u8.wrap ((a.toNat:Int)-48)=(a.toNat:Int)-48:=by rw[IntKind.wrap_u8];omega
  go_wp2;go_ret;exact⟨by rw[b.w];rfl,rfl⟩
 .by_cases d:97<=a.toNat/\a.toNat<=102
  .have b:af (uz (Mar.ds a)=(a.toNat:Int)-97+10):=by
    show _=_;unfold Mar.ds;rw[Y2 c,Y9 d];show ((a.toNat-87:Nat):Int)=_;omega
   have e:(97:Int)<=a.toNat:=Zm;have f:(a.toNat:Int)<=102:=Zm;have g:IntKind.u8.wrap ((a.toNat:Int)-97)=(a.toNat:Int)-97:=by rw[IntKind.wrap_u8];omega
   go_wp2;all_goals (first|(exfalso;omega)|(go_ret;exact⟨by rw[b.w];rfl,rfl⟩))
  .by_cases h:65<=a.toNat/\a.toNat<=70
   .have b:af (uz (Mar.ds a)=(a.toNat:Int)-65+10):=by
     show _=_;unfold Mar.ds;rw[Y2 c,Y2 d,Y9 h];show ((a.toNat-55:Nat):Int)=_;omega
    have e:(65:Int)<=a.toNat:=Zm;have f:(a.toNat:Int)<=70:=Zm;have g:IntKind.u8.wrap ((a.toNat:Int)-65)=(a.toNat:Int)-65:=by rw[IntKind.wrap_u8];omega
    go_wp2;all_goals (first|(exfalso;omega)|(go_ret;exact⟨by rw[b.w];rfl,rfl⟩))
   .have b:af (uz (Mar.ds a) = -1):=by
     show _=_;unfold Mar.ds;rw[Y2 c,Y2 d,Y2 h];rfl
    go_wp2;all_goals (first|(exfalso;omega)|(go_ret;exact⟨by rw[b.w];rfl,rfl⟩))
def NT(d:Zw)(b:Option Int)(c:Ending)(e:Zw):Prop:=e=d/\∃a,c=.returned (.tuple #[U a,.bool b.isSome])/\∀v,b=some v->a=v
def Ts{b:Zb}{a acc:Nat}(c:a<b.length):Mar.cQ acc (b.drop a)=match Mar.ds b[a]with|some d=>Mar.cQ (acc*16+d) (b.drop (a+1))|none=>none:=by
 rw[Yk c];rfl
def Qz{b:Zb}{a acc:Nat}(c:a<b.length):lW acc (b.drop a)=if Mar.d4 b[a]then lW (acc*10+(b[a].toNat-48)) (b.drop (a+1))else none:=by
 rw[Yk c];rfl
def Mo(b:UInt8)(a:Nat)(c:a<256):((b.toNat:Int)==(a:Int))=decide (b=UInt8.ofNat a):=by
 rw[Bool.eq_iff_iff,beq_iff_eq,decide_eq_true_iff,<-UInt8.toNat_inj,UInt8.toNat_ofNat',Nat.mod_eq_of_lt c];omega
def Xe(a:Zb)(g:Bool)(c5:a.length<=2000)(r:Zw) :
  Calls prog 140 #[Zs a,.bool g] r (NT r (hT a g)):=by
 have H:∀f (d:f<a.length),a.getD f 0=a[f]:=λf d=>by simp[d]
 have A:=λB=>Mo B 48 Ze;have O:=λB=>Mo B 120 Ze;simp only[Int.cast_ofNat_Int]at A O;go_in;go_upto_region 2 with fail;go_cut [23] (λz wc=>z=.bool (decide (2<a.length/\a.getD 0 0=48/\a.getD 1 0=120))/\r=wc);case first=>
  by_cases E:2<a.length
  .have b5:(2:Int)<(a.length:Int):=Zm;have a0:(0:Int)<(a.length:Int):=Zm;have a1:(1:Int)<(a.length:Int):=Zm;have a8:(⟨a.toArray⟩:Za)[0]'(by simp[ByteArray.size];omega)=a[0]:=rfl;have c1:(⟨a.toArray⟩:Za)[1]'(by simp[ByteArray.size];omega)=a[1]:=rfl;have C:=A a[0];have a6:=O a[1];generalize s:decide (a[0]=48)=w at C;generalize R:decide (a[1]=120)=a2 at a6;cases w<;>cases a2<;>(go_wp2;go_meet;case rel=>exact⟨by rw[H 0 Zm,H 1 Zm];simp at s R;simp[E,s,R],rfl⟩)
  .have b5:¬((2:Int)<(a.length:Int)):=Zm;go_wp2;go_meet;case rel=>exact⟨by simp[E],rfl⟩
 case rest=>
 obtain⟨rfl,rfl⟩:=hcut;by_cases q:2<a.length/\a.getD 0 0=48/\a.getD 1 0=120
 .rw[decide_eq_true q];have E:=q.1;have x:af (hT a g=if g=true\/10<a.length then none else (Mar.cQ 0 (a.drop 2)).map Int.ofNat):=by show _=_;unfold hT;rw[Y9 q]
  cases g with
  |true=>
   have e:af (hT a true=none):=by show _=_;rw[x.w,Y9 (Y8 rfl)]
   go_wp2;go_ret2;exact⟨rfl,0,by rw[e.w];rfl,λv d=>by rw[e.w]at d;cases d⟩
  |false=>
   by_cases p:10<a.length
   .have e:af (hT a false=none):=by show _=_;rw[x.w,Y9 (Ya p)]
    have J:(10:Int)<(a.length:Int):=Zm;go_wp2;go_ret2;exact⟨rfl,0,by rw[e.w];rfl,λv d=>by rw[e.w]at d;cases d⟩
   .have M:af (hT a false=(Mar.cQ 0 (a.drop 2)).map Int.ofNat):=by show _=_;rw[x.w,Y2 (by rintro(d|d);cases d;exact p d)]
    have J:¬((10:Int)<(a.length:Int)):=Zm;go_wp21;go_loopw [6,7] (λb8 f K=>∃b c:Nat,f=U b/\b8=U c/\2<=b/\b<=a.length/\c<16 ^ (b-2)/\af (Mar.cQ 0 (a.drop 2)=Mar.cQ c (a.drop b))/\K=r) (λ_ f _=>a.length-(intOf f).toNat)
    case atStart=>exact⟨2,0,rfl,rfl,Zm,Zm,Zq,rfl,rfl⟩
    case round=>
     obtain⟨b,c,rfl,rfl,c4,b1,a7,l,rfl⟩:=hrel;have b2:16 ^ (b-2)<=16 ^ 8:=Nat.pow_le_pow_right Zm Zm;rcases Yj b a.length with o|b0
     .have c7:(0:Int)<=(b:Int):=Zm;have b7:(b:Int)<(a.length:Int):=Zm;have a9:(⟨a.toArray⟩:Za)[b]'(by simp[ByteArray.size];exact o)=a[b]:=rfl;have h:=aa (Tw a[b]);have j:=Ts (acc:=c) o;cases n:Mar.ds a[b]with
      |none=>
       rw[n]at j h;have e:af (hT a false=none):=by show _=_;rw[M.w,l.w,j];rfl
       go_wp21;refine(h.w _).mono ?_;rintro m L ⟨rfl,rfl⟩;have b3:uz none = -1:=rfl;go_wp2;go_ret2;exact⟨rfl,0,by rw[e.w];rfl,λv d=>by rw[e.w]at d;cases d⟩
      |some k=>
       rw[n]at j h;have c2:=Mar.kv n;have y:af (Mar.cQ 0 (a.drop 2)=Mar.cQ (c*16+k) (a.drop (b+1))):=by show _=_;rw[l.w,j]
       have a4:IntKind.i64.wrap (16*(c:Int))=16*(c:Int):=by rw[IntKind.wrap_i64];omega
       have a5:IntKind.i64.wrap (16*(c:Int)+(k:Int))=((c*16+k:Nat):Int):=by rw[IntKind.wrap_i64];omega
       have F:c*16+k<16 ^ (b+1-2):=by
        have m:b+1-2=(b-2)+1:=Zm;rw[m,Nat.pow_succ];omega
       have c0:¬((k:Int)<0):=Zm;go_wp21;refine(h.w _).mono ?_;rintro m L ⟨rfl,rfl⟩;have b3:uz (some k)=(k:Int):=rfl;go_wp2;exact⟨⟨b+1,c*16+k,Zj,by congr 1<;>omega,Zm,o,F,y,trivial⟩,Zz⟩
     .have I:b=a.length:=Zm;subst I;have e:af (hT a false=some (c:Int)):=by show _=_;rw[M.w,l.w,List.drop_length];rfl
      have b7:¬((a.length:Int)<(a.length:Int)):=Zm;go_wp2;go_ret2;exact⟨rfl,(c:Int),by rw[e.w];rfl,λv d=>by rw[e.w]at d;injection d⟩
 rw[decide_eq_false q];go_upto_region 13 with fail;go_cut [64] (λz wc=>z=.bool (decide (a=[]\/10<a.length\/(1<a.length/\a.getD 0 0=48)))/\r=wc);case first=>
  by_cases D:a.length=0
  .have b6:((a.length:Int)==0)=true:=by rw[D];rfl
   go_wp2;go_meet;case rel=>exact⟨by simp[Yv.1 D],rfl⟩
  have b6:((a.length:Int)==0)=false:=by rw[Yi];omega
  have S:a≠[]:=λm=>D (by rw[m];rfl);have a8:(⟨a.toArray⟩:Za)[0]'(by simp[ByteArray.size];omega)=a[0]:=rfl;have a0:(0:Int)<(a.length:Int):=Zm;have C:=A a[0];generalize s:decide (a[0]=48)=w at C;by_cases p:10<a.length
  .have J:(10:Int)<(a.length:Int):=Zm;go_wp2;go_meet;case rel=>exact⟨by simp[p],rfl⟩
  have J:¬((10:Int)<(a.length:Int)):=Zm;by_cases P:1<a.length
  .have b4:(1:Int)<(a.length:Int):=Zm;cases w<;>(go_wp2;go_meet;case rel=>exact⟨by rw[H 0 Zm];simp at s;simp[S,p,P,s],rfl⟩)
  .have b4:¬((1:Int)<(a.length:Int)):=Zm;go_wp2;go_meet;case rel=>exact⟨by simp[S,p,P],rfl⟩
 case rest=>
 obtain⟨rfl,rfl⟩:=hcut;by_cases t:a=[]\/10<a.length\/(1<a.length/\a.getD 0 0=48)
 .rw[decide_eq_true t];have e:af (hT a g=none):=by show _=_;unfold hT;rw[Y2 q,Y9 t]
  go_wp2;go_ret2;exact⟨rfl,0,by rw[e.w];rfl,λv d=>by rw[e.w]at d;cases d⟩
 rw[decide_eq_false t];have G:af (hT a g=match lW 0 a with|none=>none|some u=>if g then (if u<=2147483648 then some (-(u:Int))else none)else (if u<=4294967295 then some (u:Int)else none)):=by
  show _=_;unfold hT;rw[Y2 q,Y2 t];all_goals (cases lW 0 a<;>rfl)
 have c6:a.length<=10:=Zm;go_wp21;go_loopw [6,9] (λa3 f K=>∃b c:Nat,f=U b/\a3=U c/\b<=a.length/\c<10 ^ b/\af (lW 0 a=lW c (a.drop b))/\K=r) (λ_ f _=>a.length-(intOf f).toNat)
 case atStart=>exact⟨0,0,rfl,rfl,Zm,Zq,rfl,rfl⟩
 case round=>
  obtain⟨b,c,rfl,rfl,b1,a7,l,rfl⟩:=hrel;have b2:10 ^ b<=10 ^ 10:=Nat.pow_le_pow_right Zm Zm;rcases Yj b a.length with o|b0
  .have a0:(0:Int)<=(b:Int):=Zm;have a1:(b:Int)<(a.length:Int):=Zm;have a9:(⟨a.toArray⟩:Za)[b]'(by simp[ByteArray.size];exact o)=a[b]:=rfl;have h:=aa (CK a[b]);have j:=Qz (acc:=c) o;cases n:Mar.d4 a[b]with
   |false=>
    rw[n]at j h;have e:af (hT a g=none):=by show _=_;rw[G.w,l.w,j];rfl
    go_wp21;refine(h.w _).mono ?_;rintro m L ⟨rfl,rfl⟩;go_wp2;go_ret2;exact⟨rfl,0,by rw[e.w];rfl,λv d=>by rw[e.w]at d;cases d⟩
   |true=>
    rw[n]at j h;have c3:=(Ac a[b]).1 n;have y:af (lW 0 a=lW (c*10+(a[b].toNat-48)) (a.drop (b+1))):=by show _=_;rw[l.w,j];rfl
    have b9:IntKind.u8.wrap ((a[b].toNat:Int)-48)=(a[b].toNat:Int)-48:=by rw[IntKind.wrap_u8];omega
    have a4:IntKind.i64.wrap (10*(c:Int))=10*(c:Int):=by rw[IntKind.wrap_i64];omega
    have a5:IntKind.i64.wrap (10*(c:Int)+((a[b].toNat:Int)-48))=((c*10+(a[b].toNat-48):Nat):Int):=by rw[IntKind.wrap_i64];omega
    have F:c*10+(a[b].toNat-48)<10 ^ (b+1):=by rw[Nat.pow_succ];omega
    go_wp21;refine(h.w _).mono ?_;rintro m L ⟨rfl,rfl⟩;go_wp2;exact⟨⟨b+1,c*10+(a[b].toNat-48),Zj,by congr 1<;>omega,o,F,y,trivial⟩,Zz⟩
  .have I:b=a.length:=Zm;subst I;have N:af (lW 0 a=some c):=by show _=_;rw[l.w,List.drop_length];rfl
   have a1:¬((a.length:Int)<(a.length:Int)):=Zm;cases g with
   |true=>
    have e:af (hT a true=if c<=2147483648 then some (-(c:Int))else none):=by show _=_;rw[G.w,N.w];rfl
    go_wp2;go_ret2;by_cases i:c<=2147483648
    .refine⟨rfl,-(c:Int),?_,λv d=>?_⟩
     .rw[e.w,Y9 i];simp;omega
     .rw[e.w,Y9 i]at d;injection d
    .refine⟨rfl,-(c:Int),?_,λv d=>?_⟩
     .rw[e.w,Y2 i];simp;omega
     .rw[e.w,Y2 i]at d;cases d
   |false=>
    have e:af (hT a false=if c<=4294967295 then some (c:Int)else none):=by show _=_;rw[G.w,N.w];rfl
    go_wp2;go_ret2;by_cases i:c<=4294967295
    .refine⟨rfl,(c:Int),?_,λv d=>?_⟩
     .rw[e.w,Y9 i];simp;omega
     .rw[e.w,Y9 i]at d;injection d
    .refine⟨rfl,(c:Int),?_,λv d=>?_⟩
     .rw[e.w,Y2 i];simp;omega
     .rw[e.w,Y2 i]at d;cases d
def fm(e:Zw)(d b:Int)(c:Ending)(f:Zw):Prop:=
 ∃a,e.heap.size<=a/\c=.panicked [{ v:=.iface 143 (Zp a),recovered:=false }]/\
  f.heap[a]? = some (.cells #[U d,U b] 179)
def OI(a:Zw)(c b:Int):fm a c b (.panicked [{ v:=.iface 143 (Zp a.heap.size),recovered:=false }]) (a.alloc (.cells #[U c,U b] 179)):=
 ⟨_,Y4 _,rfl,by show (a.heap.push _)[a.heap.size]? = _;simp⟩
def aQ{w:Zw}{o}{a:Nat}(b:a=w.heap.size):(w.alloc o).heap[a]? = some o:=by
 subst b;show (w.heap.push _)[w.heap.size]? = _;simp
def aE{d e}{a:Ending->Zw->Prop}{g:Array Zv}{c b}
  (f:a (.panicked b) c):bodyPost d e a (.panic b) { tmps:=g,defers:=[] } c:=⟨rfl,f⟩
def gZ(c b:Int)(a:Zw) :
  Calls prog 70 #[U c,U b] a λd e=>
   d=.returned (Zp a.heap.size)/\e=a.alloc (.cells #[U c,U b] 179):=by
 go_in;go_wp2;go_ret;simp
def uV(e pt c:Int)(a:Zw)(f:pt<=e) :
  Calls prog 201 #[U e,U pt,U c] a λd b=>fm a 5 c d b/\Below a.heap.size a b:=by
 go_in;go_wp2_with (go_at_call 70;refine(gZ _ _ _).mono ?_;rintro d b ⟨rfl,rfl⟩);exact aE ⟨OI ..,(Below.refl ..).alloc (Y4 _) _⟩
def uW(a pt c:Int)(b:Zw)(f:¬pt<=a) :
  Calls prog 201 #[U a,U pt,U c] b λd e=>d=.returned (.tuple #[])/\e=b:=by
 go_in;go_wp2;go_end0;simp
abbrev dx(a:Mar.aX):Zv:=.agg #[U a.F,Zs a.text,U a.n,U a.y]
def vA(d:Zw)(c:Except Mar.ay Mar.aX)(a:Ending)(e:Zw):Prop:=
 match c with
 |.ok f=>a=.returned (dx f)
 |.error b=>fm d b.no b.y a e
theorem rh{c a}{v:Zv}{d:Zw}(b:v=dx a):vA c (.ok a) (.returned v) d:=by
 show Ending.returned v=_;rw[b]
def WB(a:Za)(b:Nat)(c:Zw)(j:a.size<=281474976710656) :
  Calls prog 238 #[.string a,U b] c λe d=>vA c (Mar.eB a.data.toList b) e d/\Below c.heap.size c d:=by
 have h:af (a.size=a.data.toList.length):=Zr;by_cases i:16<a.size
 .go_in;go_wp2_with (go_at_call 70;refine(gZ _ _ _).mono ?_;rintro e d ⟨rfl,rfl⟩);refine aE ⟨?_,((Below.refl ..).alloc (Y4 _) _).alloc Zq _⟩;have:Mar.eB a.data.toList b=.error ⟨7,b⟩:=by simp_all[Mar.eB]
  rw[this];exact⟨_,Zm,rfl,aQ Zq⟩
 .go_in;go_wp2_with (go_at_call 263;refine(TY _ _).mono ?_;rintro e d ⟨rfl,rfl⟩)
  .have g:Mar.et a.data.toList=true:=‹_›;have f:Mar.eB a.data.toList b=.ok ⟨2,a.data.toList,0,b⟩:=by simp_all[Mar.eB]
   refine bodyPost_ret (v:=.agg #[U 2,.string a,U 0,U b]) (by simp[results,results238,go_sem]) rfl ⟨?_,(Below.refl ..).alloc (Y4 _) _⟩;simp_all[rh]
  .have g:Mar.et a.data.toList=false:=‹_›;have f:Mar.eB a.data.toList b=.ok ⟨1,a.data.toList,0,b⟩:=by simp_all[Mar.eB]
   refine bodyPost_ret (v:=.agg #[U 1,.string a,U 0,U b]) (by simp[results,results238,go_sem]) rfl ⟨?_,(Below.refl ..).alloc (Y4 _) _⟩;simp_all[rh]
section
variable {b e:Nat}{a:Zb}{c d:Zw}
structure Gl(c:Zw):Prop where
 av:∃m,c.cell? (Zd 2 0)=some (U m)
 qg:∃te pe,c.cell? (Zd 3 0)=some (.iface te pe)
 p8:∃te pe,c.cell? (Zd 4 0)=some (.iface te pe)
def jy{v}(a:c.cell? (Zd b e)=some v):b<c.heap.size:=by
 grind [World.cell?]
def vS{a v}(h:Below a c d)(g:a=c.heap.size)(f:c.cell? (Zd b e)=some v):d.cell? (Zd b e)=some v:=by
 rw[h.cell (p:=⟨b,e,none⟩) (by rw[g];exact jy f)];exact f
def Gl.ah(h:Gl c)(a:Below c.heap.size c d):Gl d:=by
 obtain⟨⟨l,i⟩,⟨e,b,j⟩,⟨f,g,k⟩⟩:=h;exact⟨⟨l,vS a rfl i⟩,⟨e,b,vS a rfl j⟩,⟨f,g,vS a rfl k⟩⟩
def Ol(a:Za)(c:Zw)(i:Gl c)(f:a.size<=281474976710656) :
  Calls prog 275 #[.string a,U 10,U 64] c λb d=>
   Below c.heap.size c d/\((∃v,Lib.parseIntB 64 a.data.toList=.ok v/\b=.returned (.tuple #[U v,.nilIface]))\/
    ((∀v,Lib.parseIntB 64 a.data.toList≠.ok v)/\∃(v:Int) (k:TypeId) (j:Zv),b=.returned (.tuple #[U v,.iface k j]))):=by
 obtain⟨_,⟨o,m,g⟩,⟨p,n,h⟩⟩:=i;cases e:Lib.parseIntB 64 a.data.toList with
 |ok v=>
  refine(Tryz.strconv_ParseInt_10_at64_ok a Zm v e c).mono ?_;rintro b d ⟨rfl,l⟩;refine⟨?_,Y8 ⟨v,rfl,rfl⟩⟩;grind [Below.refl,Lib.bytesWorld_below]
 |«syntax»=>
  refine(Tryz.strconv_ParseInt_10_at64_syntax a f e _ c g (Ya ⟨_,_,rfl⟩)).mono ?_;simp_all
 |range=>
  refine(Tryz.strconv_ParseInt_10_at64_range a f e _ c h (Ya ⟨_,_,rfl⟩)).mono ?_;simp_all
def HR(a:Zb)(b:0<(⟨a.toArray⟩:Za).size):(⟨a.toArray⟩:Za)[0]'b=a.getD 0 0:=by
 cases a with
 |nil=>exact absurd b Ze
 |cons c d=>rfl
def WS(d:1<(a.length:Int))(c:0<(⟨a.toArray⟩:Za).size)(b:((((⟨a.toArray⟩:Za)[0]'c).toNat:Int)==48)=true):Mar.f7 a=true:=by
 rw[HR]at b;have:(a.getD 0 0)=48:=by
  have:=beq_iff_eq.1 b;apply UInt8.toNat_inj.1;grind
 grind [Mar.f7]
def DI(e:1<(a.length:Int))(c:0<(⟨a.toArray⟩:Za).size)(b:((((⟨a.toArray⟩:Za)[0]'c).toNat:Int)==48)=false):Mar.f7 a=false:=by
 rw[HR]at b;have:(a.getD 0 0==48)=false:=by
  rw[Yi]at b ⊢;intro d;simp_all
 grind [Mar.f7]
theorem DJ(b:(a.length:Int)<=1):Mar.f7 a=false:=by
 grind [Mar.f7]
def Qy(b:Mar.f7 (Lib.trimPrefix a [45])=true):Mar.fd a=none:=by rw[Mar.fd,Y9 b]
def zM{v}(b:Mar.f7 (Lib.trimPrefix a [45])=false)(c:Lib.parseIntB 64 a=.ok v) :
  Mar.fd a=if -2147483648<=v/\v<=4294967295 then some v else none:=by simp_all[Mar.fd]
theorem GJ(b:Mar.f7 (Lib.trimPrefix a [45])=false)(c:∀v,Lib.parseIntB 64 a≠.ok v):Mar.fd a=none:=by
 rw[Mar.fd,Y2 Zg];simp
def zL{v:Int}{b:Bool}(f:Mar.fd a=if -2147483648<=v/\v<=4294967295 then some v else none)
  (e:b=decide (-2147483648<=v/\v<=4294967295)) :
  ∃c:Int,Ending.returned (.tuple #[U v,.bool b])=.returned (.tuple #[U c,.bool (Mar.fd a).isSome])/\∀d,Mar.fd a=some d->c=d:=by
 subst e;by_cases g:-2147483648<=v/\v<=4294967295;all_goals simp_all
def QA(e:Za)(c:Zw)(j:Gl c)(k:e.size<=281474976710656) :
  Calls prog 265 #[.string e] c λg d=>
   (∃h:Int,g=.returned (.tuple #[U h,.bool (Mar.fd e.data.toList).isSome])/\∀v,Mar.fd e.data.toList=some v->h=v)/\Below c.heap.size c d:=by
 have i:=aa (Ol e c j k);go_in;go_wp2_with (first
  |(go_at_call 274;refine(Tryz.strings_TrimPrefix _ _ _).mono ?_;rintro g d ⟨rfl,rfl⟩)
  |(go_at_call 275;refine i.w.mono ?_;rintro g d ⟨f,⟨v,b,rfl⟩|⟨b,v,m,l,rfl⟩⟩))
 .go_ret2;have a:=Qy (WS ‹_› _ ‹_›);simp_all[Below.refl]
 .go_ret2;have a:=zM (DI ‹_› _ ‹_›) b;exact⟨zL a Zu,f⟩
 .go_ret2;have a:=zM (DI ‹_› _ ‹_›) b;exact⟨zL a Zg,f⟩
 .go_ret2;have a:=GJ (DI ‹_› _ ‹_›) b;simp_all
 .go_ret2;have a:=zM (DJ ‹_›) b;exact⟨zL a Zu,f⟩
 .go_ret2;have a:=zM (DJ ‹_›) b;exact⟨zL a Zg,f⟩
 .go_ret2;simp_all[GJ,DJ]
end
def Dc:Option Nat->Zv
 |some v=>.tuple #[.int .u64 v,.nilIface]
 |none=>.tuple #[.int .u64 0,.iface 467 (.int .i64 2)]
def XS:∀a:Nat,a<8->16 ^ (a+1)<=4294967296
 |0,_|1,_|2,_|3,_|4,_|5,_|6,_|7,_=>by decide
 |a+8,b=>by omega
def UZ(b:UInt8) :
  (∀c,Mar.ds b=some c->¬(48<=b.toNat/\b.toNat<=57)->97<=bits .or .u8 (b.toNat:Int) 32/\bits .or .u8 (b.toNat:Int) 32<=102/\bits .or .u8 (b.toNat:Int) 32=(c:Int)+87)/\
  (Mar.ds b=none->¬(48<=b.toNat/\b.toNat<=57)->bits .or .u8 (b.toNat:Int) 32<97\/102<bits .or .u8 (b.toNat:Int) 32):=by
 have key:∀a:Fin 256,bits .or .u8 ((a.val:Nat):Int) 32=((a.val ||| 32:Nat):Int):=by decide +kernel
 have h:∀a:Fin 256,¬(48<=a.val/\a.val<=57)->(97<=a.val/\a.val<=102->(a.val ||| 32)=a.val)/\(65<=a.val/\a.val<=70->(a.val ||| 32)=a.val+32)/\
  (¬(97<=a.val/\a.val<=102)->¬(65<=a.val/\a.val<=70)->(a.val ||| 32)<97\/102<(a.val ||| 32)):=by decide +kernel
 have d:=b.toNat_lt;have g:=key ⟨b.toNat,d⟩;simp only at g;rw[g];refine⟨?_,?_⟩
 .intro c e f;obtain⟨i,j,_⟩:=h ⟨b.toNat,d⟩ f;simp only at i j;unfold Mar.ds at e;grind
 .intro e f;obtain⟨_,_,k⟩:=h ⟨b.toNat,d⟩ f;simp only at k;unfold Mar.ds at e;grind
def Om(d:Za)(b4:d.size≠0)(b3:d.size<=8)(i:Zw) :
  Calls prog 278 #[.string d,U 16,U 32] i λo z=>o=.returned (Dc (Mar.cQ 0 d.data.toList))/\z=Lib.bytesWorld i 5 d:=by
 have b1:d.toList.isEmpty=false:=by
  rw[<-decide_eq_emptyBytes];simp_all
 have I:=Lib.run_convert_string_bytes (P:=prog) i 9 97 5 d (u:=.string) Zk Zk Zk;have p:∀n,n<d.size->(Lib.bytesWorld i 5 d).cell? (Zd i.heap.size n)=some (.int .u8 (d.data.toList.getD n 0).toNat):=λn J=>Lib.bytesWorld_cell i 5 d n J;obtain⟨W1,B⟩:∃W1,W1=Lib.bytesWorld i 5 d:=⟨_,rfl⟩;rw[<-B]at I p ⊢;clear B;obtain⟨c,A⟩:∃c,c=d.data.toList:=⟨_,rfl⟩;have a6:c.length=d.size:=Zu;rw[<-A]at p ⊢;clear A;go_in;go_wp2;go_loop [12,13,101] (λS R y=>∃(a e:Nat) (g:Int),S=.bool false/\R=.int .u64 g/\y=U a/\a<=d.size/\af (g=(e:Int)/\e<16 ^ a/\Mar.cQ 0 c=Mar.cQ e (c.drop a)))
  (λ_ _ y=>d.size-(intOf y).toNat)
 case atStart=>exact⟨0,0,0,rfl,rfl,rfl,Zm,rfl,Zm,rfl⟩
 case round=>
  obtain⟨a,e,g,rfl,rfl,rfl,b2,F⟩:=hrel;obtain⟨q,r,f⟩:=F.w;clear F;by_cases L:a<d.size
  .have G:16 ^ (a+1)<=4294967296:=XS a Zm;have H:16 ^ (a+1)=16 ^ a*16:=rfl;have a2:0<=g:=Zm;have a3:g*16+15<4294967296:=Zm;have a0:=aa (Yp G H);clear G H;have C:=p a L;have D:c.drop a=c[a]' Zm::c.drop (a+1):=Yk Zm;have E:c.getD a 0=c[a]' Zm:=Zg;rw[D]at f;rw[E]at C;generalize c[a]' Zm=b at C f;have a7:b.toNat<256:=b.toNat_lt;clear p D E;by_cases l:48<=b.toNat/\b.toNat<=57
   .obtain⟨a9,b0⟩:=l;have hF:Mar.cQ e (b::c.drop (a+1))=Mar.cQ (e*16+(b.toNat-48)) (c.drop (a+1)):=by grind [Mar.cQ,Mar.ds]
    have w:af (g*16+((b.toNat:Int)-48)=((e*16+(b.toNat-48):Nat):Int)/\e*16+(b.toNat-48)<16 ^ (a+1)/\Mar.cQ 0 c=Mar.cQ (e*16+(b.toNat-48)) (c.drop (a+1))):=
     Lib.hid ⟨Zm,Zm,f.trans hF⟩
    clear hF f q r;go_wp2;exact⟨⟨a+1,_,g*16+((b.toNat:Int)-48),rfl,rfl,Zr,Zm,w⟩,Zz⟩
   .obtain⟨v,x⟩:∃v,bits .or .u8 (b.toNat:Int) 32=v:=⟨_,rfl⟩;have m:=UZ b;have j:(b.toNat:Int)<48\/57<(b.toNat:Int):=Zm;rw[x]at m;have a1:=aa x;cases h:Mar.ds b with
    |some k=>
     have a8:=Mar.kv h;have a5:((b.toNat:Int)==95)=false:=by
      rw[Yi];intro o;have a4:b=95:=UInt8.toNat_inj.1 Zg;simp_all[Mar.ds]
     obtain⟨s,b5,O⟩:=m.1 k h l;have hF:Mar.cQ e (b::c.drop (a+1))=Mar.cQ (e*16+k) (c.drop (a+1)):=by simp[Mar.cQ,h]
     have w:af (g*16+(v-97+10)=((e*16+k:Nat):Int)/\e*16+k<16 ^ (a+1)/\Mar.cQ 0 c=Mar.cQ (e*16+k) (c.drop (a+1))):=
      Lib.hid ⟨Zm,Zm,f.trans hF⟩
     clear hF f q r h m O l;rcases j with j|j;all_goals
      go_wp2_with (go_at_call 285;refine(Tryz.internal_strconv_lower _ _).mono ?_;rintro o z ⟨rfl,rfl⟩)
      exact⟨⟨a+1,_,g*16+(v-97+10),rfl,rfl,Zj,Zm,w⟩,Zz⟩
    |none=>
     have s:=m.2 h l;have hF:Mar.cQ e (b::c.drop (a+1))=none:=by simp[Mar.cQ,h]
     rw[hF]at f;have M:=bits_lo_u8 .or (b.toNat:Int) 32;have N:=bits_hi_u8 .or (b.toNat:Int) 32;rw[x]at M N;have t:=aa f;clear hF f q r h m l;rcases j with j|j;all_goals rcases s with s|s
     all_goals
      go_wp2_with (go_at_call 285;refine(Tryz.internal_strconv_lower _ _).mono ?_;rintro o z ⟨rfl,rfl⟩)
     all_goals go_ret2
     all_goals exact⟨by rw[t.w];rfl,rfl⟩
  .have K:a=d.size:=Zm;subst K;have hF:Mar.cQ e (c.drop d.size)=some e:=by rw[YR Zm];rfl
   rw[hF]at f;have t:=aa f;subst q;clear r hF f;go_wp2;go_ret2;exact⟨by rw[t.w];rfl,rfl⟩
section
variable {at':Nat}{a:Zb}{b:Option Int}
def HS:∀(a:Zb) (b v:Nat),Mar.cQ b a=some v->v<(b+1)*16 ^ a.length
 |[],b,v,d=>by grind [Mar.cQ]
 |c::e,b,v,d=>by
  unfold Mar.cQ at d;cases f:Mar.ds c with
  |none=>simp_all
  |some g=>
   rw[f]at d;have i:=Mar.kv f;have:=HS e _ _ d;have h:(b*16+g+1)*16 ^ e.length<=(b+1)*16*16 ^ e.length:=Nat.mul_le_mul_right _ Zm;grind
def Tr{v}(b:Mar.cQ 0 a=some v)(c:a.length<=8):v<4294967296:=by
 have d:=HS a 0 v b;have e:16 ^ a.length<=16 ^ 8:=Nat.pow_le_pow_right Zm c;omega
def On(b:Za)(e:Zw)(r:Gl e)(q:b.size<=8) :
  Calls prog 273 #[.string b,U 16,U 32] e λd f=>
   Below e.heap.size e f/\((∃v:Nat,b.size≠0/\Mar.cQ 0 b.data.toList=some v/\v<4294967296/\d=.returned (.tuple #[.int .u64 v,.nilIface]))\/
    ((b.size=0\/Mar.cQ 0 b.data.toList=none)/\∃(u:TypeId) (t:Zv),d=.returned (.tuple #[.int .u64 0,.iface u t]))):=by
 obtain⟨_,⟨x,w,n⟩,_⟩:=r;by_cases k:b.size=0
 .have:b=⟨#[]⟩:=by
   obtain⟨⟨a⟩⟩:=b;have:a=[]:=List.eq_nil_of_length_eq_zero k;simp_all
  subst this;go_in;go_wp2_with (first
   |(go_at_call 278;refine(Tryz.internal_strconv_ParseUint_empty _ _ _).mono ?_;rintro d f ⟨rfl,rfl⟩)
   |(go_at_call 279;refine(Tryz.strconv_toError_syntax _ _ _ _ _ _ Ze n (Ya ⟨_,_,rfl⟩)).mono ?_;rintro d f ⟨p,rfl,_,_,m⟩))
  go_ret2;simp_all
 .have c:=Om b k q e;have h:=Lib.bytesWorld_below e 5 b;have o:=vS h rfl n;obtain⟨W1,l⟩:∃W1,W1=Lib.bytesWorld e 5 b:=⟨_,rfl⟩;rw[<-l]at c h o;clear l;have i:=aa h;clear h;cases g:Mar.cQ 0 b.data.toList with
  |some v=>
   rw[g]at c;simp only[Dc]at c;have s:=Tr g Zu;have j:=aa c;clear c g;go_in;go_wp2_with (go_at_call 278;refine j.w.mono ?_;rintro d f ⟨rfl,rfl⟩);go_ret2;exact⟨i.w,Y8 ⟨v,k,rfl,s,rfl⟩⟩
  |none=>
   rw[g]at c;simp only[Dc]at c;have j:=aa c;clear c g;go_in;go_wp2_with (first
    |(go_at_call 278;refine j.w.mono ?_;rintro d f ⟨rfl,rfl⟩)
    |(go_at_call 279;refine(Tryz.strconv_toError_syntax _ _ _ _ _ _ Zm o (Ya ⟨_,_,rfl⟩)).mono ?_;rintro d f ⟨p,rfl,_,_,m⟩))
   go_ret2;exact⟨i.w.trans (m.mono i.w.size),Ya ⟨Zq,_,_,rfl⟩⟩
def Tt(b:a.length=0\/Mar.cQ 0 a=none):Mar.g0 a=none:=by
 grind [Mar.g0]
def Tu{v}(d:a.length<=8)(c:a.length≠0)(b:Mar.cQ 0 a=some v):Mar.g0 a=some (v:Int):=by
 simp_all[Mar.g0]
def Tv(a:Za)(c:Zw)(l:Gl c)(q:a.size<=281474976710656) :
  Calls prog 264 #[.string a] c λf h=>
   (∃g:Int,f=.returned (.tuple #[U g,.bool (Mar.g0 a.data.toList).isSome])/\∀v,Mar.g0 a.data.toList=some v->g=v)/\Below c.heap.size c h:=by
 have j:af (a.size=a.data.toList.length):=Zr;by_cases o:8<a.size
 .have e:Mar.g0 a.data.toList=none:=by simp_all[Mar.g0]
  rw[e];go_in;go_wp2;go_ret2;simp_all[Below.refl]
 .have i:=aa (On a c l Zm);go_in;go_wp2_with (go_at_call 273;refine i.w.mono ?_;rintro f h ⟨k,⟨v,n,b,p,rfl⟩|⟨b,s,r,rfl⟩⟩)
  .have d:=aa b;clear b;go_region;go_wp2;go_ret2;have e:=Tu Zu Zu d.w;exact⟨⟨v,Zu,λt m=>by simp_all⟩,k.drew⟩
  .have d:=aa b;clear b;go_region;go_wp2;go_ret2;have e:=Tt (by rw[<-j.w];exact d.w);simp_all[Below.drew]
def WU(b:Lib.hasPrefix a [48,120]=true):Mar.ge a=Mar.g0 (Lib.trimPrefix a [48,120]):=by
 simp[Mar.ge,b,Lib.trimPrefix]
def WT(b:Lib.hasPrefix a [48,120]=false):Mar.ge a=Mar.fd a:=by
 simp[Mar.ge,b]
def vR{c e:Zw}(f:Below c.heap.size c e):(∀a b,a<c.heap.size->e.cell? (Zd a b)=c.cell? (Zd a b))/\(∀a b,a<c.heap.size->e.frozen? ⟨a,b,none⟩=c.frozen? ⟨a,b,none⟩):=
 ⟨λa b d=>f.cell (p:=⟨a,b,none⟩) d,λa b d=>f.frozen (p:=⟨a,b,none⟩) d⟩
def JX(c:Mar.ge a=b)(d:b.isNone=true):Mar.gQ a at'=.error ⟨4,at'⟩:=by
 grind [Mar.gQ]
def JY{c:Int}(d:Mar.ge a=b)(e:b.isSome=true)(f:∀v,b=some v->c=v):Mar.gQ a at'=.ok ⟨3,a,c,at'⟩:=by
 cases b<;>simp_all[Mar.gQ]
def WY(d:Za)(at':Nat)(g:Zw)(r:Gl g)(s:d.size<=281474976710656) :
  Calls prog 241 #[.string d,U at'] g λf e=>vA g (Mar.gQ d.data.toList at') f e/\Below g.heap.size g e:=by
 have o:∀b,Gl (g.alloc b):=λb=>r.ah ((Below.refl ..).alloc (Y4 _) _);have q:(⟨(Lib.trimPrefix d.data.toList [48,120]).toArray⟩:Za).size<=281474976710656:=by
  have:=ET d.data.toList [48,120];show (Lib.trimPrefix d.data.toList [48,120]).toArray.size<=_;grind [Lib.size_eq]
 cases p:Lib.hasPrefix d.data.toList [48,120]with
 |true=>
  have a:=WU p;have h:=aa a;clear a;go_in;go_wp2_with (first
   |(go_at_call 260;refine(Tryz.strings_CutPrefix _ _ _).mono ?_;rintro f e ⟨rfl,rfl⟩)
   |(go_at_call 264;refine(Tv _ _ (o _) q).mono ?_;rintro f e ⟨⟨n,rfl,a⟩,c⟩;obtain⟨l,m⟩:=vR c;have j:=c.size;simp at j;have k:=aa a;clear a)
   |(go_at_call 70;refine(gZ _ _ _).mono ?_;rintro f e ⟨rfl,rfl⟩))
  .have i:=JX (at':=at') h.w ‹_›;refine aE ⟨?_,?_⟩
   .rw[i];exact⟨_,Zm,rfl,aQ rfl⟩
   .exact(((Below.refl ..).alloc (Y4 _) _).trans (c.mono Zq)).alloc Zm _
  .have i:=JY (at':=at') h.w Zu k.w;refine bodyPost_ret (v:=.agg #[U 3,.string d,U n,U at']) (by simp[results,results241,go_sem,l,m,j]) rfl ⟨?_,?_⟩
   .simp_all[rh]
   .exact((((((Below.refl ..).alloc (Y4 _) _).trans (c.mono Zq)).setCell (Y4 _) _).setCell (Y4 _) _).setCell (Y4 _) _).setCell (Y4 _) _
 |false=>
  have a:=WT p;have h:=aa a;clear a;go_in;go_wp2_with (first
   |(go_at_call 260;refine(Tryz.strings_CutPrefix _ _ _).mono ?_;rintro f e ⟨rfl,rfl⟩)
   |(go_at_call 265;refine(QA _ _ (o _) s).mono ?_;rintro f e ⟨⟨n,rfl,a⟩,c⟩;obtain⟨l,m⟩:=vR c;have j:=c.size;simp at j;have k:=aa a;clear a)
   |(go_at_call 70;refine(gZ _ _ _).mono ?_;rintro f e ⟨rfl,rfl⟩))
  .have i:=JX (at':=at') h.w ‹_›;refine aE ⟨?_,?_⟩
   .rw[i];exact⟨_,Zm,rfl,aQ rfl⟩
   .exact(((Below.refl ..).alloc (Y4 _) _).trans (c.mono Zq)).alloc Zm _
  .have i:=JY (at':=at') h.w Zu k.w;refine bodyPost_ret (v:=.agg #[U 3,.string d,U n,U at']) (by simp[results,results241,go_sem,l,m,j]) rfl ⟨?_,?_⟩
   .simp_all[rh]
   .exact((((((Below.refl ..).alloc (Y4 _) _).trans (c.mono Zq)).setCell (Y4 _) _).setCell (Y4 _) _).setCell (Y4 _) _).setCell (Y4 _) _
end
def vA.cases{f b d g}(e:vA f b d g) :
  (∃c,b=.ok c/\d=.returned (dx c))\/(∃a,b=.error a/\fm f a.no a.y d g):=by
 cases b with
 |ok c=>exact Y8 ⟨c,rfl,e⟩
 |error a=>exact Ya ⟨a,rfl,e⟩
theorem Ll(a:UInt8):(0<=Lib.indexByte [123,125,40,41,91,93,60,62,42,44,59,58,61] a)↔Mar.f9 a=true:=by
 have key:∀b:Fin 256,(0<=Lib.indexByte [123,125,40,41,91,93,60,62,42,44,59,58,61] (UInt8.ofNat b.val))↔Mar.f9 (UInt8.ofNat b.val)=true:=by decide +kernel
 have:=key ⟨a.toNat,a.toNat_lt⟩;simp_all
theorem KY(a:Zb):(Mar.bb a).length<=a.length:=by
 cases a<;>grind [Mar.bb,List.takeWhile_sublist]
theorem Hq{a:UInt8}(b:((a.toNat:Int)==45)=true):(a==45)=true:=by
 have:=beq_iff_eq.1 b;have c:a=45:=UInt8.toNat_inj.1 Zg;simp_all
theorem JO{a:UInt8}(b:((a.toNat:Int)==45)=false):(a==45)=false:=by
 rw[Yi]at b ⊢;intro c;simp_all
def Xl(a:Za)(b:0<a.size):a.extract 0 1=⟨[a[0]].toArray⟩:=by
 rw[CP];obtain⟨⟨c⟩⟩:=a;cases c with
 |nil=>exact absurd b Ze
 |cons d e=>rfl
def Sz(a:Za)(b:Nat)(l:Zw)(C:Gl l)(F:a.size<=281474976710656) :
  Calls prog 183 #[.string a,U b] l λf m=>vA l (Mar.c8 a.data.toList b) f m/\Below l.heap.size l m:=by
 have D:∀x,Gl (l.alloc x):=λx=>C.ah ((Below.refl ..).alloc (Y4 _) _);by_cases z:a.size=0
 .have:a=⟨#[]⟩:=by
   obtain⟨⟨t⟩⟩:=a;have:t=[]:=List.eq_nil_of_length_eq_zero z;simp_all
  subst this;go_in;go_wp2;refine bodyPost_ret (v:=.agg #[U 0,.string ⟨#[]⟩,U 0,U b]) (by simp[results,results183,go_sem]) rfl ⟨rh rfl,(Below.refl ..).alloc (Y4 _) _⟩
 .have u:0<a.size:=Zm;have J:a.toList.isEmpty=false:=by
   rw[<-decide_eq_emptyBytes];simp_all
  have B:Mar.c8 a.data.toList b=(if Mar.e5 a[0]then Mar.eB (Mar.bb a.data.toList) b
    else if Mar.d4 a[0]||a[0]==45 then Mar.gQ (Mar.bb a.data.toList) b else if Mar.f9 a[0]then .ok ⟨4,[a[0]],0,b⟩else .error ⟨2,b⟩):=by
   obtain⟨⟨t⟩⟩:=a;cases t with
   |nil=>simp_all
   |cons I K=>rfl
  have w:(⟨(Mar.bb a.data.toList).toArray⟩:Za).size<=281474976710656:=by
   have:=KY a.data.toList;show (Mar.bb a.data.toList).toArray.size<=_;grind [Lib.size_eq]
  have h:=aa B;go_in;go_wp2_with (first
   |(go_at_call 237;refine(Id _ _).mono ?_;rintro f m ⟨rfl,rfl⟩)
   |(go_at_call 240;refine(Ic _ _).mono ?_;rintro f m ⟨rfl,rfl⟩)
   |(go_at_call 239;refine(aa6 _ _ F u).mono ?_;rintro f G ⟨rfl,d⟩;have E:=aa ((D _).ah d))
   |(go_at_call 238;refine(WB _ _ _ w).mono ?_;rintro f H ⟨r,q⟩;have e:=d.trans (q.mono d.size);obtain⟨j,k⟩:=vR e;have g:=e.size;simp at g;rcases r.cases with⟨i,s,rfl⟩|⟨o,s,n,A,rfl,p⟩)
   |(go_at_call 241;refine(WY _ _ _ E.w w).mono ?_;rintro f H ⟨r,q⟩;have e:=d.trans (q.mono d.size);obtain⟨j,k⟩:=vR e;have g:=e.size;simp at g;rcases r.cases with⟨i,s,rfl⟩|⟨o,s,n,A,rfl,p⟩)
   |(go_at_call 236;refine(Tryz.strings_IndexByte _ _ _).mono ?_;rintro f m ⟨rfl,rfl⟩)
   |(go_at_call 242;refine(BO _ _ Zx).mono ?_;rintro f G ⟨rfl,d⟩;obtain⟨j,k⟩:=vR d;have g:=d.size;simp at g)
   |(go_at_call 70;refine(gZ _ _ _).mono ?_;rintro f m ⟨rfl,rfl⟩))
  .have c:Mar.c8 a.data.toList b=.ok i:=by rw[h.w];simp_all
   refine bodyPost_ret (v:=dx i) (by simp[results,results183,go_sem,j,k,g]) rfl ⟨?_,?_⟩
   .simp_all[rh]
   .exact((((((Below.refl ..).alloc (Y4 _) _).trans (e.mono Zq)).setCell (Y4 _) _).setCell (Y4 _) _).setCell (Y4 _) _).setCell (Y4 _) _
  .have c:Mar.c8 a.data.toList b=.error o:=by rw[h.w];simp_all
   refine aE ⟨?_,((Below.refl ..).alloc (Y4 _) _).trans (e.mono Zq)⟩;rw[c];exact⟨n,by have:=d.size;simp at this;omega,rfl,p⟩
  .have c:Mar.c8 a.data.toList b=.ok i:=by rw[h.w];simp_all
   refine bodyPost_ret (v:=dx i) (by simp[results,results183,go_sem,j,k,g]) rfl ⟨?_,?_⟩
   .simp_all[rh]
   .exact((((((Below.refl ..).alloc (Y4 _) _).trans (e.mono Zq)).setCell (Y4 _) _).setCell (Y4 _) _).setCell (Y4 _) _).setCell (Y4 _) _
  .have c:Mar.c8 a.data.toList b=.error o:=by rw[h.w];simp_all
   refine aE ⟨?_,((Below.refl ..).alloc (Y4 _) _).trans (e.mono Zq)⟩;rw[c];exact⟨n,by have:=d.size;simp at this;omega,rfl,p⟩
  .have c:Mar.c8 a.data.toList b=.ok i:=by rw[h.w];simp_all[Hq]
   refine bodyPost_ret (v:=dx i) (by simp[results,results183,go_sem,j,k,g]) rfl ⟨?_,?_⟩
   .simp_all[rh]
   .exact((((((Below.refl ..).alloc (Y4 _) _).trans (e.mono Zq)).setCell (Y4 _) _).setCell (Y4 _) _).setCell (Y4 _) _).setCell (Y4 _) _
  .have c:Mar.c8 a.data.toList b=.error o:=by rw[h.w];simp_all[Hq]
   refine aE ⟨?_,((Below.refl ..).alloc (Y4 _) _).trans (e.mono Zq)⟩;rw[c];exact⟨n,by have:=d.size;simp at this;omega,rfl,p⟩
  .have c:Mar.c8 a.data.toList b=.ok ⟨4,[a[0]],0,b⟩:=by rw[h.w];simp_all[JO,Ll]
   refine bodyPost_ret (v:=.agg #[U 4,.string (a.extract 0 1),U 0,U b]) (by simp[results,results183,go_sem,j,k,g]) rfl ⟨?_,?_⟩
   .rw[c];exact rh (by simp only[dx,Xl a u];rfl)
   .exact((((((Below.refl ..).alloc (Y4 _) _).trans (d.mono Zq)).setCell (Y4 _) _).setCell (Y4 _) _).setCell (Y4 _) _).setCell (Y4 _) _
  .have c:Mar.c8 a.data.toList b=.error ⟨2,b⟩:=by
    rw[h.w];rw[Y2 Zg,Y2 (by simp[JO Zt, *]),Y2 (λy=>by have:=(Ll _).2 y;omega)]
   refine aE ⟨?_,((Below.refl ..).alloc (Y4 _) _).alloc Zq _⟩;rw[c];exact⟨_,Zm,rfl,aQ Zq⟩
section
variable {d:List Nat}{T:TypeId}{a b w f:Zw}{c:Nat}{h e g:Zv}{p:Addr}
structure an(d:List Nat)(w f:Zw):Prop where
 os:f.os=w.os
 dq:f.tape=w.tape
 dp:f.output=w.output
 aD:w.heap.size<=f.heap.size
 L:∀k,k<w.heap.size->k ∉ d->f.heap[k]? = w.heap[k]?
theorem ao(d:List Nat)(w:Zw):an d w w:=⟨rfl,rfl,rfl,Y4 _,λ_ _ _=>rfl⟩
def bT(d:List Nat)(a:Below w.heap.size w f):an d w f:=⟨a.os,a.tape,a.output,a.size,λc b _=>a.block c b⟩
theorem an.u{f}(c:an d a b)(e:an d b f):an d a f:=
 ⟨e.os.trans c.os,e.dq.trans c.dq,e.dp.trans c.dp,Yz c.aD e.aD,λi g h=>(e.L i (Yr g c.aD) h).trans (c.L i g h)⟩
theorem an.ak{M':List Nat}(c:an d a b)(h:∀j∈d,j∈M'):an M' a b:=
 ⟨c.os,c.dq,c.dp,c.aD,λe g i=>c.L e g (λf=>i (h e f))⟩
def an.nZ(c:an d a b)(e:Nat):an d a (b.drewN e):=⟨c.os,c.dq,c.dp,c.aD,c.L⟩
theorem an.aU(c:an d a b):an d a b.drew:=⟨c.os,c.dq,c.dp,c.aD,c.L⟩
def an.H(c:an d a b)(e:Obj):an d a (b.alloc e):=
 c.u (bT d ((Below.refl ..).alloc (Y4 _) _))
def an.aH(e:an d a b)(g:p.block∈d)(h:Zv):an d a (b.setCell p h):=
 e.u ⟨rfl,rfl,rfl,Zq,λi _ f=>Below.heap_setCell _ _ _ _ (λc=>f (c▸g))⟩
def an.b4(c:an d a b)(i:a.heap.size<=p.block)(h:Zv):an d a (b.setCell p h):=
 ⟨c.os,c.dq,c.dp,Yz c.aD Zq,λg e f=>(Below.heap_setCell _ _ _ _ Zm).trans (c.L g e f)⟩
def iW(S:Nat)(d:Za)(c:Nat)(b g e a h:Zv)(w:Zw):Prop:=
 w.heap[S]? = some (.cells #[.string d,U c,b,g,e,a,h] 222)
def iW.ba{S d b a}(f:iW S d c b g e a h w) :
  w.cell? (Zd S 0)=some (.string d)/\w.cell? (Zd S 1)=some (U c)/\w.cell? (Zd S 2)=some b/\w.cell? (Zd S 3)=some g/\
  w.cell? (Zd S 4)=some e/\w.cell? (Zd S 5)=some a/\w.cell? (Zd S 6)=some h/\S<w.heap.size/\∀i,w.frozen? ⟨S,i,none⟩=false:=by
 unfold iW at f;have j:S<w.heap.size:=by
  grind
 simp_all[World.cell?,World.frozen?]
def bv{b i:Nat}{cs a}(c:w.heap[b]? = some (.cells cs T a))(v:Zv) :
  (w.setCell ⟨b,i,none⟩ v).heap[b]? = some (.cells (cs.setIfInBounds i v) T a):=by
 grind [World.setCell]
def Es{b:Nat}{l a k' t' n' a':Zv}{c}(d:w.heap[b]? = some (.cells #[l,g,e,a] T c)) :
  ((((w.setCell ⟨b,0,none⟩ k').setCell ⟨b,1,none⟩ t').setCell ⟨b,2,none⟩ n').setCell ⟨b,3,none⟩ a').heap[b]? = some (.cells #[k',t',n',a'] T c):=by
 have f:=bv (i:=0) d k';have h:=bv (i:=1) f t';have j:=bv (i:=2) h n';have k:=bv (i:=3) j a';exact k
def lG{b:Nat}{c a:Zv}(f:w.heap[b]? = some (.cells #[c,g,e,a] T)) :
  w.cell? (Zd b 0)=some c/\w.cell? (Zd b 1)=some g/\w.cell? (Zd b 2)=some e/\w.cell? (Zd b 3)=some a/\∀d,w.frozen? ⟨b,d,none⟩=false:=by
 simp_all[World.cell?,World.frozen?]
def CU{a b}(d:Mar.c8 a c=.ok b):b.text.length<=a.length:=by
 cases a<;>grind [Mar.c8,KY,Mar.eB,Mar.gQ]
def pF(a:Zb)(c:Nat):Except Mar.ay (Mar.aX×Nat):=
 match Mar.c8 (a.drop (c+Mar.eX (a.drop c))) (c+Mar.eX (a.drop c))with
 |.ok b=>.ok (b,c+Mar.eX (a.drop c)+b.text.length)
 |.error d=>.error d
def Gl.ac(j:Gl w)(p:an d w f)(k:2 ∉ d)(l:3 ∉ d)(m:4 ∉ d):Gl f:=by
 have key:∀b v,b ∉ d->w.cell? (Zd b 0)=some v->f.cell? (Zd b 0)=some v:=by
  intro b v n o;have:=p.L b (jy o) n;grind [World.cell?]
 obtain⟨⟨q,g⟩,⟨a,b,h⟩,⟨c,e,i⟩⟩:=j;exact⟨⟨q,key _ _ k g⟩,⟨a,b,key _ _ l h⟩,⟨c,e,key _ _ m i⟩⟩
def iW.hm{S i f a}(b:iW S i c f g e a h w)(d:Gl w) :
  2≠S/\3≠S/\4≠S:=by
 obtain⟨j,_⟩:=b.ba;obtain⟨⟨n,k⟩,⟨_,_,l⟩,⟨_,_,m⟩⟩:=d;grind
def abj{S:Nat}{l:Za}{k a:Zv}(b:iW S l c k g e a h w)(f:Gl w)(nq:Nat)(v:Zv){p:Nat}(n:v=U p) :
  an [S] w (((w.alloc (.cells #[U 0,.string ⟨#[]⟩,U 0,U 0] 154)).drewN nq).setCell ⟨S,1,none⟩ v)/\
  iW S l p k g e a h (((w.alloc (.cells #[U 0,.string ⟨#[]⟩,U 0,U 0] 154)).drewN nq).setCell ⟨S,1,none⟩ v)/\
  Gl (((w.alloc (.cells #[U 0,.string ⟨#[]⟩,U 0,U 0] 154)).drewN nq).setCell ⟨S,1,none⟩ v)/\
  w.heap.size<(((w.alloc (.cells #[U 0,.string ⟨#[]⟩,U 0,U 0] 154)).drewN nq).setCell ⟨S,1,none⟩ v).heap.size/\
  (((w.alloc (.cells #[U 0,.string ⟨#[]⟩,U 0,U 0] 154)).drewN nq).setCell ⟨S,1,none⟩ v).heap[w.heap.size]? = some (.cells #[U 0,.string ⟨#[]⟩,U 0,U 0] 154):=by
 subst n;have m:S<w.heap.size:=b.ba.2.2.2.2.2.2.2.1;have d:=((Below.refl w.heap.size w).alloc (Y4 _) (.cells #[U 0,.string ⟨#[]⟩,U 0,U 0] 154));have j:=((bT [S] d).nZ nq).aH (p:=⟨S,1,none⟩) Zq (U p);refine⟨j,?_,?_,?_,?_⟩
 .exact bv (i:=1) ((d.block S m).trans b) _
 .obtain⟨o,q,r⟩:=b.hm f;exact f.ac j Zg Zg Zg
 .simp
 .exact(Below.heap_setCell _ _ _ _ Zg).trans (aQ rfl)
def abi(S:Nat)(d:Za)(c:Nat)(o g e a h:Zv)(w:Zw)(a8:iW S d c o g e a h w)(a0:Gl w)(f4:c<=d.size)(h2:d.size<=4000000000) :
  Calls prog 117 #[Zp S] w λs f=>an [S] w f /\
   ((∃i p,pF d.data.toList c=.ok (i,p)/\p<=d.size/\s=.returned (dx i)/\iW S d p o g e a h f)\/
    (∃k,pF d.data.toList c=.error k/\fm w k.no k.y s f)):=by
 obtain⟨b8,b9,c0,c1,c2,c3,c4,g8,d7⟩:=a8.ba;obtain⟨e8,a4⟩:=a0.av;have a5:=λG=>vS (((Below.refl w.heap.size w).alloc (Y4 _) G).drew) rfl a4;have L:=aa a5;clear a4 a5;have m:(d.extract c d.size).size<4294967281:=Zx;go_in;have a6:c+Mar.eX (d.data.toList.drop c)<=d.size:=by
  grind [Mar.m0,Lib.size_eq,Mar.eX]
 have R:(d.extract c d.size).data.toList=d.data.toList.drop c:=CO d c;have u:=λl e4=>acb (d.extract c d.size) e8 l m e4;rw[R]at u;obtain⟨q,O⟩:∃q,af (Mar.eX (d.data.toList.drop c)=q):=⟨_,rfl⟩;rw[O.w]at u a6;have M:=aa u;clear u R;have b7:af (IntKind.i64.wrap ((c:Int)+(q:Int))=((c+q:Nat):Int)):=by
  show IntKind.i64.wrap ((c:Int)+(q:Int))=_;grind [IntKind.wrap_i64]
 go_upto_region 1 with fail;go_cut [] (λwc=>an [S] w wc/\iW S d (c+q) o g e a h wc/\Gl wc/\w.heap.size<wc.heap.size/\wc.heap[w.heap.size]? = some (.cells #[U 0,.string ⟨#[]⟩,U 0,U 0] 154));case first=>
  go_region_with (first|(go_at_call 182;refine(M.w _ ?_).mono ?_;exact L.w _;rintro s f ⟨rfl,nq,rfl⟩));all_goals (go_wp21)
  all_goals go_meet
  all_goals exact abj a8 a0 _ _ (by rw[b7.w])
 case rest=>
  rename Zw=>j;obtain⟨p,N⟩:∃p,af (c+q=p):=⟨_,rfl⟩;rw[N.w]at hcut a6;obtain⟨a2,a9,a1,C,a7⟩:=hcut;obtain⟨c5,c6,c7,c8,c9,d0,d1,e3,g2⟩:=a9.ba;obtain⟨b0,b1,b2,b3,d8⟩:=lG a7;have h0:¬j.heap.size=S:=Zm;have h1:¬S=j.heap.size:=Zm;have g5:(0:Int)<=p:=Zm;have g6:(p:Int)<=d.size:=Zm;have e7:(d.extract p d.size).size<=281474976710656:=Zx;have B:=λl e0=>Sz (d.extract p d.size) p l e0 e7;rw[CO]at B;have J:=aa (a1.ah ((Below.refl j.heap.size j).drew));have K:=aa (λG=>a1.ah (((Below.refl j.heap.size j).alloc (Y4 _) G).drew));have z:=aa a2;clear b8 b9 c0 c1 c2 c3 c4 d7 a2;have kV:∀(k:Mar.ay) (b:Nat) (l:Zw),Mar.c8 (d.data.toList.drop p) p=.error k->j.heap.size<=b->Below j.heap.size j l->l.heap[b]? = some (.cells #[U k.no,U k.y] 179)->
    an [S] w l/\((∃i p,pF d.data.toList c=.ok (i,p)/\p<=d.size/\Ending.panicked [{ v:=.iface 143 (Zp b),recovered:=false }]=.returned (dx i)/\iW S d p o g e a h l)\/
     (∃k,pF d.data.toList c=.error k/\fm w k.no k.y (.panicked [{ v:=.iface 143 (Zp b),recovered:=false }]) l)):=by
   intro k b l d9 d3 r d4;refine⟨z.w.u (bT _ r),Ya ⟨k,?_,b,Yz (Nat.le_of_lt C) d3,rfl,d4⟩⟩;unfold pF;rw[O.w,N.w,d9]
  have H:=aa kV;have I:=aa B;clear B kV;go_wp21;go_cut [3] (λe9 b4=>∃b i,e9=Zp b/\j.heap.size<=b/\Mar.c8 (d.data.toList.drop p) p=.ok i/\
   Below j.heap.size j b4/\b4.heap[b]? = some (.cells #[U i.F,Zs i.text,U i.n,U i.y] 154))
  case first=>
   go_region_held2 (λf=>f.cell? (Zd S 0)=some (.string d)/\f.cell? (Zd S 1)=some (U p)) (go_keep)
    (first|(go_at_call 183;refine(I.w _ ?_).mono ?_;(first|exact J.w|exact K.w _);rintro s l ⟨e1,n⟩;rcases e1.cases with⟨i,m,rfl⟩|⟨k,m,b,P,rfl,d5⟩;rotate_left;exact aE (H.w k b l m (by first|exact P|(have:=P;simp at this;omega)) (by first|exact((Below.refl j.heap.size j).drew).trans n|exact(((Below.refl j.heap.size j).alloc (Y4 _) _).drew).trans (n.mono Zq)) d5);have Hx:=aa m;clear m;obtain⟨g0,g4⟩:=vR n;have F:=n.size;simp at F;have h4:=(n.cell (p:=⟨S,0,none⟩) Zx);have h5:=(n.cell (p:=⟨S,1,none⟩) Zx)))
   all_goals (go_wp21)
   all_goals go_meet
   .exact⟨l.heap.size,i,rfl,F,Hx.w,(((Below.refl j.heap.size j).drew).trans n).alloc F _,aQ rfl⟩
   .refine⟨j.heap.size,i,rfl,Y4 _,Hx.w,?_,?_⟩
    .exact((((((((Below.refl j.heap.size j).alloc (Y4 _) _).drew).trans (n.mono Zq)).setCell (Y4 _) _).setCell (Y4 _) _).setCell (Y4 _) _).setCell (Y4 _) _)
    .exact Es ((n.block j.heap.size Zq).trans (aQ rfl))
  case rest=>
   rename Zw=>f0;obtain⟨b,i,rfl,f5,m,r,A⟩:=hcut;obtain⟨h6,h7,h8,h9,g3⟩:=lG A;have a3:=z.w.u (bT [S] r);have E:iW S d p o g e a h f0:=(r.block S e3).trans a9;have D:=(r.block w.heap.size C).trans a7;obtain⟨c5,c6,c7,c8,c9,d0,d1,g9,g1⟩:=E.ba;obtain⟨b0,b1,b2,b3,d8⟩:=lG D;have e2:p+i.text.length<=d.size:=by
    have:=CU m;simp only[YI]at this;have:=Lib.size_eq d;omega
   have g7:(p:Int)+i.text.length<=d.size:=Zm;have f3:=aa m;have f1:=aa A;have f2:=aa D;have b5:=aa E;have b6:=aa a3;have f6:¬b=S:=Zm;have f7:¬S=b:=Zm;have h3:¬w.heap.size=S:=Zm;have e6:¬S=w.heap.size:=Zm;have f8:¬b=w.heap.size:=Zm;have f9:¬w.heap.size=b:=Zm;clear m A D E a3 r I H J K z L M;go_wp2;go_region;go_wp2;have d6:pF d.data.toList c=.ok (i,p+i.text.length):=by
    grind [pF,af.w]
   refine bodyPost_ret (v:=dx i) (by simp[results,results117,go_sem,b0,b1,b2,b3,C]) rfl ⟨?_,Y8 ⟨i,_,d6,e2,rfl,?_⟩⟩
   .exact(((((b6.w.aH Zq _).b4 (Y4 _) _).b4 (Y4 _) _).b4 (Y4 _) _).b4 (Y4 _) _).aU
   .have d2:=bv (i:=1) b5.w (U ((p+i.text.length:Nat):Int));have t:∀(y:Zw) (x:Nat) (v:Zv),y.heap[S]? = some (.cells #[.string d,U ((p+i.text.length:Nat):Int),o,g,e,a,h] 222)->
      (y.setCell ⟨w.heap.size,x,none⟩ v).heap[S]? = some (.cells #[.string d,U ((p+i.text.length:Nat):Int),o,g,e,a,h] 222):=
     λy x v e5=>(Below.heap_setCell y ⟨w.heap.size,x,none⟩ v S e6).trans e5
    rw[<-Int.natCast_add];exact t _ 3 _ (t _ 2 _ (t _ 1 _ (t _ 0 _ d2)))
end
def Sc(S:Nat)(c:Za)(b:Nat)(h:Option Mar.aX)(d:Zw):Prop:=
 b<=c.size/\match h with
 |some a=>iW S c b (.int .i64 a.F) (.string ⟨a.text.toArray⟩) (.int .i64 a.n) (.int .i64 a.y) (.bool true) d
 |none=>∃f i g e,iW S c b f i g e (.bool false) d
def Sc.ah{S e c b w f}(a:Sc S e c b w)(d:Below w.heap.size w f):Sc S e c b f:=by
 obtain⟨h,a⟩:=a;refine⟨h,?_⟩;cases b with
 |some l=>exact(d.block S (iW.ba (w:=w) a).2.2.2.2.2.2.2.1).trans a
 |none=>
  obtain⟨i,k,j,g,a⟩:=a;exact⟨i,k,j,g,(d.block S a.ba.2.2.2.2.2.2.2.1).trans a⟩
def fj(b:Zb)(a:Nat):Option Mar.aX->Except Mar.ay (Mar.aX×Nat)
 |some c=>.ok (c,a)
 |none=>pF b a
theorem Uc{S:Nat}{a b:Zw}{d}(c:an [S] (a.alloc d) b)(i j k l m e f g h:Zv) :
  an [S] a (((((((((b.setCell ⟨S,2,none⟩ i).setCell ⟨S,3,none⟩ j).setCell ⟨S,4,none⟩ k).setCell ⟨S,5,none⟩ l).setCell ⟨S,6,none⟩ m).setCell ⟨a.heap.size,0,none⟩ e).setCell ⟨a.heap.size,1,none⟩ f).setCell ⟨a.heap.size,2,none⟩ g).setCell ⟨a.heap.size,3,none⟩ h):=
 ((((((((((((ao ..).H _).u c).aH Zq _).aH Zq _).aH Zq _).aH Zq _).aH Zq _).b4 (Y4 _) _).b4 (Y4 _) _).b4 (Y4 _) _).b4 (Y4 _) _)
theorem sc9{S b:Nat}{l k y E z n u m}(w:¬S=b)(o:iW S l k y E z n u m){f g h i j}(A B C D:Zv) :
  iW S l k f g h i j (((((((((m.setCell ⟨S,2,none⟩ f).setCell ⟨S,3,none⟩ g).setCell ⟨S,4,none⟩ h).setCell ⟨S,5,none⟩ i).setCell ⟨S,6,none⟩ j).setCell ⟨b,0,none⟩ A).setCell ⟨b,1,none⟩ B).setCell ⟨b,2,none⟩ C).setCell ⟨b,3,none⟩ D):=by
 have p:=bv (i:=2) o f;have q:=bv (i:=3) p g;have r:=bv (i:=4) q h;have s:=bv (i:=5) r i;have t:=bv (i:=6) s j;have c:∀(d:Zw) (a:Nat) (v:Zv) (e:Option Obj),d.heap[S]? = e->(d.setCell ⟨b,a,none⟩ v).heap[S]? = e:=
  λd a v e x=>(Below.heap_setCell d ⟨b,a,none⟩ v S w).trans x
 exact c _ 3 _ _ (c _ 2 _ _ (c _ 1 _ _ (c _ 0 _ _ t)))
def FM(S:Nat)(d:Za)(e:Nat)(j:Option Mar.aX)(a:Zw)(c:Sc S d e j a)(J:Gl a)(N:d.size<=4000000000) :
  Calls prog 72 #[Zp S] a λl p=>an [S] a p /\
   ((∃b k,fj d.data.toList e j=.ok (b,k)/\l=.returned (dx b)/\Sc S d k (some b) p)\/
    (∃f,fj d.data.toList e j=.error f/\fm a f.no f.y l p)):=by
 obtain⟨q,c⟩:=c;cases j with
 |some b=>
  have r:iW S d e (U b.F) (Zs b.text) (U b.n) (U b.y) (.bool true) a:=c;obtain⟨z,A,B,C,D,E,F,m,I⟩:=r.ba;have w:=aa r;go_in;go_wp2;refine bodyPost_ret (v:=dx b) (by simp[results,results72,go_sem]) rfl ⟨?_,Y8 ⟨b,e,rfl,rfl,q,?_⟩⟩
  .exact(ao ..).H _
  .exact(Below.heap_alloc a _ S m).trans w.w
 |none=>
  obtain⟨O,a3,P,x,c⟩:=c;obtain⟨z,A,B,C,D,E,F,m,I⟩:=c.ba;have s:=λg=>(Below.refl a.heap.size a).alloc (Y4 _) g;have t:=λg=>abi S d e O a3 P x (.bool false) (a.alloc g) ((Below.heap_alloc a g S m).trans c) (J.ah (s g)) q N;have u:=aa t;go_in;go_wp2_with (go_at_call 117;refine(u.w _).mono ?_;rintro l b7 ⟨h,⟨b,k,i,M,rfl,o⟩|⟨f,i,y,G,rfl,H⟩⟩;obtain⟨a7,a8,a9,b0,b1,b2,b3,b6,b4⟩:=o.ba;have n:=(h.L a.heap.size Zq Zg).trans (aQ rfl);obtain⟨R,a0,a1,a2,b5⟩:=lG n;have a6:=aa n;have a4:=aa o;have a5:=aa h;have Hx:=aa i;clear n o h i)
  .have K:¬S=a.heap.size:=Zm;have L:¬a.heap.size=S:=Zm;refine bodyPost_ret (v:=dx b) (by simp[results,results72,go_sem,K,L,R,a0,a1,a2]) rfl ⟨?_,Y8 ⟨b,k,Hx.w,rfl,M,?_⟩⟩
   .grind [Uc,af.w]
   grind [sc9,af.w]
  .refine aE ⟨((ao ..).H _).u h,Ya ⟨f,i,y,?_,rfl,H⟩⟩;simp at G;omega
def Oi(S:Nat)(c:Za)(h:Nat)(f:Option Mar.aX)(w:Zw)(t:Sc S c h f w)(F:Gl w)(J:c.size<=4000000000) :
  Calls prog 118 #[Zp S] w λo r=>an [S] w r /\
   ((∃a g,fj c.data.toList h f=.ok (a,g)/\o=.returned (dx a)/\Sc S c g none r)\/
    (∃d,fj c.data.toList h f=.error d/\fm w d.no d.y o r)):=by
 have a9:S<w.heap.size:=by
  obtain⟨_,j⟩:=t;cases f with
  |some a=>exact(iW.ba (w:=w) j).2.2.2.2.2.2.2.1
  |none=>obtain⟨b4,b6,b5,R,j⟩:=j;exact j.ba.2.2.2.2.2.2.2.1
 have H:¬S=w.heap.size:=Zm;have b3:¬w.heap.size=S:=Zm;have x:=λb=>FM S c h f (w.alloc b) (Sc.ah t ((Below.refl w.heap.size w).alloc (Y4 _) b)) (F.ah ((Below.refl w.heap.size w).alloc (Y4 _) b)) J;have y:=aa x;go_in;go_wp2_with (go_at_call 72;refine(y.w _).mono ?_;rintro o n ⟨e,⟨a,g,k,rfl,I,s⟩|⟨d,k,B,D,rfl,E⟩⟩;have q:iW S c g (U a.F) (Zs a.text) (U a.n) (U a.y) (.bool true) n:=s;obtain⟨a0,a1,a2,a3,a4,a5,a6,b2,a7⟩:=q.ba;have p:=(e.L w.heap.size Zq Zu).trans (aQ rfl);obtain⟨L,M,N,O,a8⟩:=lG p;have u:=e.aD;simp at u;have G:w.heap.size<n.heap.size:=u;have b0:¬w.heap.size=n.heap.size:=Zm;have b1:¬S=n.heap.size:=Zm;have P:=aa p;have z:=aa q;have A:=aa e;have Hx:=aa k;clear p s q e k)
 .refine bodyPost_ret (v:=dx a) (by simp[results,results118,go_sem,G,L,M,N,O]) rfl ⟨?_,Y8 ⟨a,g,Hx.w,rfl,I,?_⟩⟩
  .exact((((((((ao ..).H _).u A.w).aH Zq _).b4 (Y4 _) _).b4 (Y4 _) _).b4 (Y4 _) _).b4 (Y4 _) _).H _
  .refine⟨U a.F,Zs a.text,U a.n,U a.y,(Below.heap_alloc _ _ S Zu).trans ?_⟩;have C:=bv (i:=6) z.w (.bool false);have i:∀(m:Zw) (l:Nat) (v:Zv) (b:Option Obj),m.heap[S]? = b->(m.setCell ⟨w.heap.size,l,none⟩ v).heap[S]? = b:=
    λm l v b K=>(Below.heap_setCell m ⟨w.heap.size,l,none⟩ v S H).trans K
   exact i _ 3 _ _ (i _ 2 _ _ (i _ 1 _ _ (i _ 0 _ _ C)))
 .refine aE ⟨((ao ..).H _).u e,Ya ⟨d,k,B,?_,rfl,E⟩⟩;simp at D;omega
section
variable {e X f:List Nat}{a b:Nat}{bs:Zo}{w c:Zw}
inductive Ty where
 |plain (k:Nat)
 |named (t:Zb) (at':Nat)
 |opaq (n:Int) (fixed:Bool)
 |str (n:Int) (fixed:Bool)
 |arr (of:Ty) (n:Int) (fixed:Bool)
 |opt (of:Ty)
 |void
def cW:Ty->Zv
 |.plain e=>.iface 372 (.agg #[.int .i64 e])
 |.named f d=>.iface 260 (.agg #[.string ⟨f.toArray⟩,.int .i64 d])
 |.opaq b a=>.iface 377 (.agg #[.int .i64 b,.bool a])
 |.str b a=>.iface 380 (.agg #[.int .i64 b,.bool a])
 |.arr c b a=>.iface 382 (.agg #[cW c,.int .i64 b,.bool a])
 |.opt c=>.iface 385 (.agg #[cW c])
 |.void=>.iface 444 (.agg #[])
structure aW where
 t:Zb
 y:Nat
 O:Ty
structure gg where
 t:Zb
 y:Nat
 cu:Ty
 cP:Ty
 num:Int
structure fH where
 t:Zb
 y:Nat
 aq:List gg
 num:Int
inductive aC where
 |const (t:Zb) (at':Nat) (v:Int)
 |typedef (d:aW)
 |enum (t:Zb) (at':Nat) (ms:List (Zb×Nat×Int))
 |struct (t:Zb) (at':Nat) (ms:List aW)
 |union (t:Zb) (at':Nat) (sel:aW) (arms:List (List Int×aW))
 |prog (t:Zb) (at':Nat) (vs:List fH) (num:Int)
def bW(X:List Nat)(bs:Zo)(w:Zw):Prop:=∀a∈bs,w.heap[a.1]? = some a.2/\a.1 ∉ X
abbrev pu(b:Zb)(a:Nat):Zl:=[Zs b,U a]
abbrev mJ(a:aW):Zl:=[Zs a.t,U a.y,cW a.O]
def hn(bs:Zo)(f:TypeId)(v:Zv)(a:Nat)(b:Zl):Prop:=
 (v=.slice none 0 0/\a=0/\b=[])\/∃e c d,v=.slice (some ⟨e,0,none⟩) a c/\(a<=c/\a<=1000)/\(e,Obj.cells d f)∈bs/\d.toList.take b.length=b
def vp(bs:Zo)(b:Nat)(a:Zb×Nat×Int):Prop:=(b,Obj.cells #[.string ⟨a.1.toArray⟩,U a.2.1,U a.2.2] 343)∈bs
def fB(bs:Zo)(b:Nat):aC->Prop
 |.const f d v=>vp bs b (f,d,v)
 |.typedef o=>(b,Obj.cells (mJ o).toArray 244)∈bs
 |.enum f d g=>∃(c:Zv) (l:List Nat),(b,Obj.cells (pu f d++[c]).toArray 253)∈bs/\l.length=g.length/\
   hn bs 223 c g.length (l.map λi=>Zp i)/\∀a (m:a<g.length) (n:a<l.length),vp bs l[a] g[a]
 |.struct f d g=>∃(c:Zv),(b,Obj.cells (pu f d++[c]).toArray 353)∈bs/\hn bs 242 c g.length (g.flatMap mJ)
 |.union f d r j=>∃(c:Zv) (e:Zl),(b,Obj.cells (pu f d++mJ r++[c]).toArray 358)∈bs/\e.length=j.length/\
   hn bs 363 c j.length ((j.zip e).flatMap λh=>h.2::mJ h.1.2)/\
   ∀a (m:a<j.length) (n:a<e.length),hn bs 2 e[a] j[a].1.length (j[a].1.map λp=>U p)
 |.prog f d k q=>∃(c:Zv) (e:Zl),(b,Obj.cells (pu f d++[c,.int .i64 q]).toArray 267)∈bs/\e.length=k.length/\
   hn bs 367 c k.length ((k.zip e).flatMap λh=>pu h.1.t h.1.y++[h.2,U h.1.num])/\
   ∀a (m:a<k.length) (n:a<e.length),hn bs 446 e[a] k[a].aq.length (k[a].aq.flatMap λi=>pu i.t i.y++[cW i.cu,cW i.cP,U i.num])
def dI:aC->TypeId
 |.const ..=>223
 |.typedef ..=>225
 |.enum ..=>227
 |.struct ..=>229
 |.union ..=>231
 |.prog ..=>233
def mn(bs:Zo)(v:Zv):Option aC->Prop
 |none=>v=.nilIface
 |some a=>∃b,v=.iface (dI a) (.pointer (some ⟨b,0,none⟩))/\fB bs b a
def uJ(a:List (Zb×Zv)):Obj:=.map (a.mapIdx λc b=>⟨.string ⟨b.1.toArray⟩,b.2,c⟩).toArray a.length
def AK(a:List (Int×Int)):Obj:=.map (a.mapIdx λc b=>⟨U b.1,U b.2,c⟩).toArray a.length
def hZ(X:List Nat)(a:Nat)(b:List (Zb×Option aC))(w:Zw):Prop:=
 (b.map (·.1)).Nodup/\∃(bs:Zo) (d:Zl),bW X bs w/\d.length=b.length/\w.heap[a]? = some (uJ (b.zip d |>.map λe=>(e.1.1,e.2)))/\∀c (f:c<b.length) (g:c<d.length),mn bs d[c] b[c].2
def au{a}(c:w.heap[b]? = some a):b<w.heap.size:=by
 grind
def bW.ac(d:bW X bs w)(g:an e w c)(f:∀j∈e,j∈X):bW X bs c:=by
 intro k i;obtain⟨a,b⟩:=d k i;exact⟨(g.L _ (au a) (λh=>b (f _ h))).trans a,b⟩
theorem bW.a1(a:bW X bs w)(g:w.heap.size<=b):bW (b::X) bs w:=by
 intro d c;obtain⟨e,f⟩:=a d c;grind
def bW.bE(a:bW X bs w)(d:∀g∈f,g∈X):bW f bs w:=
 λc b=>⟨(a c b).1,λe=>(a c b).2 (d _ e)⟩
def hZ.ac{f}(g:hZ X a f w)(d:an e w c)(k:∀m∈e,m∈X)(l:a ∉ e):hZ X a f c:=by
 obtain⟨n,bs,o,h,i,b,j⟩:=g;exact⟨n,bs,o,h.ac d k,i,(d.L _ (au b) l).trans b,j⟩
def hZ.ah{b}(d:hZ X a b w)(e:Below w.heap.size w c):hZ X a b c:=
 d.ac (bT [] e) Zq Zq
theorem hZ.a1{c}(d:hZ X a c w)(g:w.heap.size<=b):hZ (b::X) a c w:=by
 obtain⟨h,bs,i,e,f⟩:=d;exact⟨h,bs,i,e.a1 g,f⟩
def hZ.bE{b}(c:hZ X a b w)(g:∀j∈f,j∈X):hZ f a b w:=by
 obtain⟨h,bs,i,d,e⟩:=c;exact⟨h,bs,i,d.bE g,e⟩
def hZ.f3{l}(d:hZ X a l w):∃c b,w.heap[a]? = some (.map c b):=by
 obtain⟨_,bs,f,_,_,e,_⟩:=d;exact⟨_,_,e⟩
end
section
variable {d:List Nat}{b:Nat}{f:Mar.ay}{nx:Option Mar.aX}{w c w1:Zw}{α e:Type}
structure Ad where
 R:Nat
 S:Nat
 N:Nat
 P:Nat
 X:List Nat
def Ad.a1(a:Ad)(b:Nat):Ad:={ a with X:=b::a.X }
structure St where
 y:Nat
 nx:Option Mar.aX
 aA:Nat
 aN:Nat
 K:List (Zb×Option aC)
 am:List (Int×Int)
structure Rd(A:Ad)(text:Za)(σ:St)(w:Zw):Prop where
 me:w.heap[A.R]? = some (.cells #[Zp A.S,.map (some A.N),U σ.aA,U σ.aN,.map (some A.P)] 151)
 sc:Sc A.S text σ.y σ.nx w
 nm:hZ A.X A.N σ.K w
 az:A.R∈A.X/\A.S∈A.X/\A.N∈A.X/\A.P∈A.X
 a3:∀x∈A.X,x<w.heap.size
 pr:w.heap[A.P]? = some (AK σ.am)
 np:A.N≠A.P
 gl:Gl w
 dO:text.size<=4000000000
 bc:σ.aA<=1000000/\σ.aN<=1000000
def Sc.at{S c a}(b:Sc S c a nx w):∃f h g d e,iW S c a f h g d e w:=by
 obtain⟨_,b⟩:=b;grind
def Rd.ca{a e f}(b:Rd a e f w):a.R≠a.S/\a.R≠a.N/\a.R≠a.P/\a.S≠a.N/\a.S≠a.P/\a.N≠a.P:=by
 obtain⟨n,p,o,g,j,d⟩:=b.sc.at;have m:w.heap[a.S]? = _:=d;have k:=b.me;obtain⟨i,h,l⟩:=b.nm.f3;have c:=b.pr;unfold AK at c;refine⟨?_,?_,?_,?_,?_,b.np⟩
 .grind
 all_goals grind
theorem Rd.lt{a e f}(b:Rd a e f w):a.R<w.heap.size/\a.S<w.heap.size/\a.N<w.heap.size/\a.P<w.heap.size:=by
 obtain⟨k,m,l,g,j,d⟩:=b.sc.at;obtain⟨i,h,c⟩:=b.nm.f3;exact⟨au b.me,au d,au c,au b.pr⟩
def Rd.al{A d a}(b:Rd A d a w) :
  w.cell? (Zd A.R 0)=some (Zp A.S)/\w.cell? (Zd A.R 1)=some (.map (some A.N))/\w.cell? (Zd A.R 2)=some (U a.aA)/\
  w.cell? (Zd A.R 3)=some (U a.aN)/\w.cell? (Zd A.R 4)=some (.map (some A.P))/\∀c,w.frozen? ⟨A.R,c,none⟩=false:=by
 have e:=b.me;simp_all[World.cell?,World.frozen?]
def Rd.ah{d e f}(a:Rd d e f w)(b:Below w.heap.size w c):Rd d e f c:=by
 obtain⟨h,k,l,i⟩:=a.lt;exact⟨(b.block _ h).trans a.me,a.sc.ah b,a.nm.ah b,a.az,λj g=>Yr (a.a3 j g) b.size,(b.block _ i).trans a.pr,a.np,a.gl.ah b,a.dO,a.bc⟩
def Rd.l7{d e g}(a:Rd d e g w)(b:an [d.S] w c){f}(h:Sc d.S e f nx c) :
  Rd d e { g with y:=f,nx:=nx } c:=by
 obtain⟨k,t,u,l⟩:=a.lt;obtain⟨x,y,z,A,B,C⟩:=a.ca;obtain⟨s,D,v,n,r,i⟩:=a.sc.at;obtain⟨o,p,q⟩:=i.hm a.gl;exact⟨(b.L _ k Zg).trans a.me,h,a.nm.ac b (by simp;exact a.az.2.1) Zg,a.az,λm j=>Yr (a.a3 m j) b.aD,(b.L _ l Zg).trans a.pr,a.np,
  a.gl.ac b Zg Zg Zg,a.dO,a.bc⟩
def Rd.ac{b j g}(a:Rd b j g w)(e:an d w c)(t:∀B∈d,B∈b.X)(p:b.R ∉ d)(q:b.S ∉ d)(r:b.N ∉ d)(s:b.P ∉ d)
  (m:2 ∉ d) (n:3 ∉ d) (o:4 ∉ d):Rd b j g c:=by
 obtain⟨y,z,E,A⟩:=a.lt;refine⟨(e.L _ y p).trans a.me,?_,a.nm.ac e t r,a.az,λk v=>Yr (a.a3 k v) e.aD,(e.L _ A s).trans a.pr,a.np,a.gl.ac e m n o,a.dO,a.bc⟩;obtain⟨u,f⟩:=a.sc;refine⟨u,?_⟩;have h:=e.L _ z q;cases i:g.nx with
 |some k=>rw[i]at f;exact h.trans f
 |none=>rw[i]at f;obtain⟨x,D,C,l,f⟩:=f;exact⟨x,D,C,l,h.trans f⟩
def vH{a A':Ad}{b j g}(c:Rd a b j w)(i:A'.R=a.R/\A'.S=a.S/\A'.N=a.N/\A'.P=a.P)(h:Rd A' b g w1){p:Addr}(q:w.heap.size<=p.block)(o:p.block∈A'.X)(v:Zv):Rd A' b g (w1.setCell p v):=by
 obtain⟨r,s,t,u⟩:=c.lt;obtain⟨⟨x,d⟩,⟨_,_,e⟩,⟨_,_,f⟩⟩:=c.gl;have d:=jy d;have e:=jy e;have f:=jy f;obtain⟨k,l,m,n⟩:=i;refine h.ac ((ao [p.block] w1).aH Zq v) Zu ?_ ?_ ?_ ?_ ?_ ?_ ?_<;>simp<;>omega
def Rd.ae{e f g}(b:Rd e f g w)(d:Obj):Rd (e.a1 w.heap.size) f g (w.alloc d):=by
 have a:=b.ah ((Below.refl w.heap.size w).alloc (Y4 _) d);refine⟨a.me,a.sc,(b.nm.a1 (Y4 _)).ah ((Below.refl w.heap.size w).alloc (Y4 _) d),?_,?_,a.pr,a.np,a.gl,a.dO,a.bc⟩
 .obtain⟨h,i,j,k⟩:=b.az;exact⟨Y5 _ h,Y5 _ i,Y5 _ j,Y5 _ k⟩
 .intro l c;simp only[Ad.a1,Yg]at c;rcases c with rfl|c
  .simp
  .have:=b.a3 l c;simp;omega
def tZ{a:Ad}{e g}(h:a.R∈a.X/\a.S∈a.X/\a.N∈a.X/\a.P∈a.X)(c:Rd (a.a1 b) e g w):Rd a e g w:=
 ⟨c.me,c.sc,c.nm.bE (λf d=>Y5 _ d),h,λf d=>c.a3 f (Y5 _ d),c.pr,c.np,c.gl,c.dO,c.bc⟩
abbrev PM(α:Type):=St->Except Mar.ay (α×St)
def eR(d:List Nat)(h:Ad)(j:Za)(w:Zw)(e:Except Mar.ay (α×St))(i:α->Zv)(b:Ending)(c:Zw):Prop:=
 an d w c/\((∃a g,e=.ok (a,g)/\b=.returned (i a)/\Rd h j g c)\/(∃f,e=.error f/\fm w f.no f.y b c))
def hA(d:Za):PM Mar.aX:=λa=>
 match fj d.data.toList a.y a.nx with
 |.ok (b,c)=>.ok (b,{ a with y:=c,nx:=some b })
 |.error f=>.error f
def next(c:Za):PM Mar.aX:=λa=>
 match fj c.data.toList a.y a.nx with
 |.ok (d,b)=>.ok (d,{ a with y:=b,nx:=none })
 |.error f=>.error f
def DT{a d e}(b:Rd a d e w) :
  Calls prog 72 #[Zp a.S] w (eR [a.S] a d w (hA d e) dx):=by
 refine(FM a.S d e.y e.nx w b.sc b.gl b.dO).mono ?_;rintro l c ⟨g,⟨k,m,h,rfl,i⟩|⟨f,h,j⟩⟩
 .exact⟨g,Y8 ⟨k,_,by simp only[hA,h],rfl,b.l7 g i⟩⟩
 .exact⟨g,Ya ⟨f,by simp only[hA,h],j⟩⟩
def uO{a d e}(b:Rd a d e w) :
  Calls prog 118 #[Zp a.S] w (eR [a.S] a d w (next d e) dx):=by
 refine(Oi a.S d e.y e.nx w b.sc b.gl b.dO).mono ?_;rintro l c ⟨g,⟨k,m,h,rfl,i⟩|⟨f,h,j⟩⟩
 .exact⟨g,Y8 ⟨k,_,by simp only[next,h],rfl,b.l7 g i⟩⟩
 .exact⟨g,Ya ⟨f,by simp only[next,h],j⟩⟩
def iE(b:Za)(a:Zb):PM Bool:=λd=>
 match hA b d with
 |.ok (c,e)=>.ok (c.text==a,e)
 |.error f=>.error f
def So(a b c d:Zv)(w:Zw):(Instr.field 154 (.agg #[a,b,c,d]) 0).run prog w=.ok a w:=Zk
def Sp(a b c d:Zv)(w:Zw):(Instr.field 154 (.agg #[a,b,c,d]) 1).run prog w=.ok b w:=Zk
def Hy(c b d a:Zv)(w:Zw):(Instr.field 154 (.agg #[c,b,d,a]) 3).run prog w=.ok a w:=Zk
def Lb{a d i}(h:Za)(e:Rd a d i w) :
  Calls prog 198 #[Zp a.R,.string h] w (eR [a.S] a d w (iE d h.data.toList i) .bool):=by
 rw[<-ByteArray.toList_eq];obtain⟨o,p,q,r,s,u⟩:=e.al;have v:=Sp;have j:=aa (DT e);go_in;go_wp2_with (go_at_call 72;refine j.w.mono ?_;rintro t w1 ⟨g,⟨x,n,c,rfl,m⟩|⟨f,c,b,k,rfl,l⟩⟩<;>(try dsimp only[dx]))
 .go_ret;exact⟨g,Y8 ⟨_,n,by simp only[iE,c],rfl,m⟩⟩
 .exact aE ⟨g,Ya ⟨f,by simp only[iE,c],b,k,rfl,l⟩⟩
def aM(c:PM α)(b:α->PM e):PM e:=λd=>
 match c d with
 |.ok (a,g)=>b a g
 |.error f=>.error f
def ret(a:α):PM α:=λb=>.ok (a,b)
def gU(b a:Nat):PM α:=λ_=>.error ⟨b,a⟩
theorem aK{m:PM α}{b:α->PM e}{c d:St}{a:α}(f:m c=.ok (a,d)):aM m b c=b a d:=by simp only[aM,f]
theorem bO{m:PM α}{c:α->PM e}{a:St}(b:m a=.error f):aM m c a=.error f:=by simp only[aM,b]
def eu(a:Za)(b:Zb):PM Bool:=aM (iE a b) λc=>if c then aM (next a) λ_=>ret true else ret false
theorem gX{e h}{g:Except Mar.ay (α×St)}{f:α->Zv}{a:α}{b:St}{v:Zv}
  (j:an d w c) (k:g=.ok (a,b)) (l:v=f a) (i:Rd e h b c):eR d e h w g f (.returned v) c:=⟨j,Y8 ⟨a,b,k,by rw[l],i⟩⟩
def fC{M' e m}{a:Except Mar.ay (α×St)}{g}
  (j:an d w c) (k:an M' w w1) (l:a=.error f) (h:w1.heap.size<=b) (i:c.heap[b]? = some (.cells #[U f.no,U f.y] 179)) :
  eR d e m w a g (.panicked [{ v:=.iface 143 (Zp b),recovered:=false }]) c:=
 ⟨j,Ya ⟨f,l,b,Yz k.aD h,rfl,i⟩⟩
def xr{e l o}(k:Za)(r:Rd e l o w) :
  Calls prog 192 #[Zp e.R,.string k] w (eR [e.S] e l w (eu l k.data.toList o) .bool):=by
 have p:=aa (Lb k r);go_in;go_wp2_with (first
  |(go_at_call 198;refine p.w.mono ?_;rintro q w1 ⟨a,⟨m,C,c,rfl,i⟩|⟨f,c,b,g,rfl,h⟩⟩;obtain⟨t,u,v,x,y,z⟩:=i.al)
  |(go_at_call 118;refine(uO i).mono ?_;rintro q A ⟨n,⟨B,D,j,rfl,s⟩|⟨f,j,b,g,rfl,h⟩⟩))
 .have d:m=false:=Zu;subst d;go_ret;exact gX a (aK c) rfl i
 .have d:m=true:=Zu;subst d;go_ret;exact gX (a.u n) ((aK c).trans (aK j)) rfl s
 .have d:m=true:=Zu;subst d;exact aE (fC (a.u n) a ((aK c).trans (bO j)) g h)
 .exact aE (fC a (ao [] _) (bO c) g h)
def cI(c:Za)(b:Zb):PM Mar.aX:=aM (next c) λa=>if a.text==b then ret a else gU 3 a.y
def vX{d g q}(m:Za)(e:Rd d g q w) :
  Calls prog 187 #[Zp d.R,.string m] w (eR [d.S] d g w (cI g m.data.toList q) dx):=by
 rw[<-ByteArray.toList_eq];obtain⟨L,M,N,O,P,a0⟩:=e.al;have a2:=e.lt.1;have a4:=e.lt.2.1;have u:af (∀l,Calls prog 118 #[Zp d.S] (w.alloc l) (eR [d.S] (d.a1 w.heap.size) g (w.alloc l) (next g q) dx)):=λl=>uO (e.ae l);have K:=aa e.ca;go_in;go_wp2_with (first
  |(go_at_call 118;refine(u.w _).mono ?_;rintro y w1 ⟨h,⟨i,J,k,rfl,r⟩|⟨f,k,b,z,rfl,A⟩⟩<;>(try dsimp only[dx]);have s:=(h.L w.heap.size Zq Zg).trans (aQ rfl);obtain⟨E,F,G,H,a1⟩:=lG s;have t:=h.aD;simp at t;have B:w.heap.size<w1.heap.size:=t;have a3:¬w.heap.size=w1.heap.size:=Zm;have n:=aa h;have Hx:=aa k;have x:=aa r;clear s h k r)
  |(go_at_call 70;refine(gZ _ _ _).mono ?_;rintro y c ⟨rfl,rfl⟩))
 .have o:(i.text==m.toList)=false:=Zu;refine aE (fC (M':=[d.S]) (w1:=w1) (f:=⟨3,i.y⟩) ((((ao ..).H _).u n.w).H _ |>.H _) (((ao ..).H _).u n.w) ((aK Hx.w).trans ?_) Zm (aQ Zq));rw[o];rfl
 .have o:(i.text==m.toList)=true:=Zu;refine bodyPost_ret (v:=dx i) (by simp[results,results187,go_sem,B,E,F,G,H]) rfl (gX (a:=i) ?_ ((aK Hx.w).trans (by rw[o];rfl)) rfl ?_)
  .exact((((((((ao ..).H _).u n.w)).b4 (Y4 _) _).b4 (Y4 _) _).b4 (Y4 _) _).b4 (Y4 _) _).H _
  .have j:=λ{I:Zw} (C:Rd (d.a1 w.heap.size) g J I) (D:Nat) (v:Zv)=>vH (A':=d.a1 w.heap.size) e ⟨rfl,rfl,rfl,rfl⟩ C (p:=⟨w.heap.size,D,none⟩) (Y4 _) (by simp[Ad.a1]) v;exact tZ e.az ((j (j (j (j x.w 0 _) 1 _) 2 _) 3 _).ah ((Below.refl ..).alloc (Y4 _) _))
 .exact aE (fC (((ao ..).H _).u h) ((ao [d.S] _).H _) (bO k) z A)
end
def lh(b:Za)(a:Mar.aX):PM Ty:=
 if((a.F:Int)==1)then ret (.named a.text a.y)
 else if a.text==Jk then ret (.plain 0)
 else if a.text==Jq then ret (.plain 2)
 else if a.text==Js then ret (.plain 4)
 else if a.text==Jb then
  aM (eu b Jq) λc=>if c then ret (.plain 3)else aM (eu b Jk) λ_=>ret (.plain 1)
 else gU 3 a.y
def pK(a:Za):PM Ty:=aM (next a) (lh a)
def tw1{b}{a:Mar.aX}(c:((a.F:Int)==1)=true):lh b a=ret (.named a.text a.y):=by simp_all[lh]
def tw2{b}{a:Mar.aX}(c:((a.F:Int)==1)=false)(d:(a.text==Jk)=true):lh b a=ret (.plain 0):=by simp_all[lh]
def tw3{b}{a:Mar.aX}(c:((a.F:Int)==1)=false)(d:(a.text==Jk)=false)(e:(a.text==Jq)=true):lh b a=ret (.plain 2):=by simp_all[lh]
def tw4{b}{a:Mar.aX}(c:((a.F:Int)==1)=false)(d:(a.text==Jk)=false)(e:(a.text==Jq)=false)(f:(a.text==Js)=true):lh b a=ret (.plain 4):=by simp_all[lh]
theorem Bx{b}{a:Mar.aX}(d:((a.F:Int)==1)=false)(e:(a.text==Jk)=false)(f:(a.text==Jq)=false)(g:(a.text==Js)=false)(h:(a.text==Jb)=true) :
  lh b a=aM (eu b Jq) λc=>if c then ret (.plain 3)else aM (eu b Jk) λ_=>ret (.plain 1):=by simp_all[lh]
def tw6{b}{a:Mar.aX}(c:((a.F:Int)==1)=false)(d:(a.text==Jk)=false)(e:(a.text==Jq)=false)(f:(a.text==Js)=false)(g:(a.text==Jb)=false) :
  lh b a=gU 3 a.y:=by simp_all[lh]
def ES(a:Mar.aX)(b:Zw) :
  Calls prog 243 #[dx a] b λc d=>c=.returned (.agg #[Zs a.text,U a.y])/\Below b.heap.size b d:=by
 dsimp only[dx];go_in;go_wp2;exact bodyPost_ret (v:=.agg #[Zs a.text,U a.y]) (by simp[results,results243,go_sem]) rfl ⟨rfl,((Below.refl ..).alloc (Y4 _) _).alloc Zq _⟩
def Ml{b m y n}(q:Rd b m y n) :
  Calls prog 249 #[Zp b.R] n (eR [b.S] b m n (pK m y) cW):=by
 obtain⟨B,C,D,E,F,G⟩:=q.al;have z:=aa (uO q);go_in;go_wp2_with (first
  |(go_at_call 118;refine z.w.mono ?_;rintro h w ⟨k,⟨x,M,i,rfl,t⟩|⟨j,i,p,d,rfl,e⟩⟩<;>(try dsimp only[dx]);have a:=aa k;have Hx:=aa i;have c:=aa t;clear k i t)
  |(go_at_call 243;refine(ES x _).mono ?_;rintro h I ⟨rfl,r⟩)
  |(go_at_call 70;refine(gZ _ _ _).mono ?_;rintro h H ⟨rfl,rfl⟩)
  |(go_at_call_of 192 (Value.string { data:=#[104,121,112,101,114] });refine(xr _ (c.w.ah ((Below.refl ..).alloc (Y4 _) _))).mono ?_;rintro h J ⟨f,⟨o,N,l,rfl,u⟩|⟨j,l,p,d,rfl,e⟩⟩)
  |(go_at_call_of 192 (Value.string { data:=#[105,110,116] });refine(xr _ u).mono ?_;rintro h K ⟨s,⟨L,O,v,rfl,A⟩|⟨j,v,p,d,rfl,e⟩⟩))
 .go_ret;exact gX ((a.w.H _).u (bT _ r)) ((aK Hx.w).trans (by rw[tw1 ‹_›];rfl)) rfl ((c.w.ah ((Below.refl ..).alloc (Y4 _) _)).ah r)
 .go_ret;exact gX (a.w.H _) ((aK Hx.w).trans (by rw[tw2 ‹_› ‹_›];rfl)) rfl (c.w.ah ((Below.refl ..).alloc (Y4 _) _))
 .go_ret;exact gX (a.w.H _) ((aK Hx.w).trans (by rw[tw3 ‹_› ‹_› ‹_›];rfl)) rfl (c.w.ah ((Below.refl ..).alloc (Y4 _) _))
 .go_ret;exact gX (a.w.H _) ((aK Hx.w).trans (by rw[tw4 ‹_› ‹_› ‹_› ‹_›];rfl)) rfl (c.w.ah ((Below.refl ..).alloc (Y4 _) _))
 .have g:o=true:=‹_›;subst g;go_ret;exact gX ((a.w.H _).u f) ((aK Hx.w).trans (by rw[Bx ‹_› ‹_› ‹_› ‹_› ‹_›];exact aK l)) rfl u
 .have g:o=false:=‹_›;subst g;go_ret;exact gX (((a.w.H _).u f).u s) ((aK Hx.w).trans (by rw[Bx ‹_› ‹_› ‹_› ‹_› ‹_›];exact(aK l).trans (aK v))) rfl A
 .have g:o=false:=‹_›;subst g;exact aE (fC (((a.w.H _).u f).u s) ((a.w.H _).u f) ((aK Hx.w).trans (by rw[Bx ‹_› ‹_› ‹_› ‹_› ‹_›];grind [aK,bO])) d e)
 .exact aE (fC ((a.w.H _).u f) (a.w.H _) ((aK Hx.w).trans (by simp_all[Bx,bO])) d e)
 .exact aE (fC (M':=[b.S]) (w1:=w) (f:=⟨3,x.y⟩) ((a.w.H _).H _) a.w ((aK Hx.w).trans (by rw[tw6 ‹_› ‹_› ‹_› ‹_› ‹_›];rfl)) Zm (aQ Zq))
 .exact aE (fC k (ao [] _) (bO i) d e)
section
variable {c:Ad}{d:Zw}{b:St}
def lB(a:Nat):PM Unit:=λb=>if 24<=b.aA then .error ⟨5,a⟩else .ok ((),{ b with aA:=b.aA+1 })
def lA(a:Nat):PM Unit:=λb=>if 40<=b.aN then .error ⟨5,a⟩else .ok ((),{ b with aN:=b.aN+1 })
abbrev tJ:Unit->Zv:=λ_=>.tuple #[]
def Rd.k8{e}(a:Rd c e b d):2≠c.R/\3≠c.R/\4≠c.R:=by
 obtain⟨f,_⟩:=a.al;obtain⟨⟨j,g⟩,⟨_,_,h⟩,⟨_,_,i⟩⟩:=a.gl;grind
def Rd.ju{j}(a:Rd c j b d)(x:b.aA<24) :
  Rd c j { b with aA:=b.aA+1 } (d.setCell ⟨c.R,2,none⟩ (U ((b.aA+1:Nat):Int))):=by
 obtain⟨y,q,z,r⟩:=a.lt;obtain⟨A,B,C,D,E,F⟩:=a.ca;have f:an [c.R] d (d.setCell ⟨c.R,2,none⟩ (U ((b.aA+1:Nat):Int))):=(ao [c.R] d).aH (p:=⟨c.R,2,none⟩) Zq _;refine⟨bv (i:=2) a.me _,?_,a.nm.ac f (by simp;exact a.az.1) Zg,a.az,λk n=>Yr (a.a3 k n) f.aD,
  (f.L _ r Zg).trans a.pr,a.np,?_,a.dO,?_⟩
 .obtain⟨m,e⟩:=a.sc;have g:=f.L _ q Zg;refine⟨m,?_⟩;cases h:b.nx with
  |some k=>rw[h]at e;exact g.trans e
  |none=>rw[h]at e;obtain⟨o,t,s,l,e⟩:=e;exact⟨o,t,s,l,g.trans e⟩
 .obtain⟨u,v,w⟩:=a.k8;exact a.gl.ac f Zg Zg Zg
 .exact⟨Zg,a.bc.2⟩
def Rd.o9{j}(a:Rd c j b d)(x:b.aN<40) :
  Rd c j { b with aN:=b.aN+1 } (d.setCell ⟨c.R,3,none⟩ (U ((b.aN+1:Nat):Int))):=by
 obtain⟨y,q,z,r⟩:=a.lt;obtain⟨A,B,C,D,E,F⟩:=a.ca;have f:an [c.R] d (d.setCell ⟨c.R,3,none⟩ (U ((b.aN+1:Nat):Int))):=(ao [c.R] d).aH (p:=⟨c.R,3,none⟩) Zq _;refine⟨bv (i:=3) a.me _,?_,a.nm.ac f (by simp;exact a.az.1) Zg,a.az,λk n=>Yr (a.a3 k n) f.aD,
  (f.L _ r Zg).trans a.pr,a.np,?_,a.dO,?_⟩
 .obtain⟨m,e⟩:=a.sc;have g:=f.L _ q Zg;refine⟨m,?_⟩;cases h:b.nx with
  |some k=>rw[h]at e;exact g.trans e
  |none=>rw[h]at e;obtain⟨o,t,s,l,e⟩:=e;exact⟨o,t,s,l,g.trans e⟩
 .obtain⟨u,v,w⟩:=a.k8;exact a.gl.ac f Zg Zg Zg
 .exact⟨a.bc.1,Zg⟩
def AC{j}(e:Nat)(g:Rd c j b d) :
  Calls prog 190 #[Zp c.R,U e] d (eR [c.R] c j d (lB e b) tJ):=by
 obtain⟨q,r,s,t,u,w⟩:=g.al;have v:=g.bc;by_cases i:24<=b.aA
 .have h:(24:Int)<=b.aA:=Zm;go_in;go_wp2_with (go_at_call 201;refine(uV _ _ _ _ h).mono ?_;rintro k o ⟨⟨p,m,rfl,n⟩,l⟩);exact aE (fC (f:=⟨5,e⟩) (bT _ l) (ao [] _) (by rw[lB,Y9 i]) m n)
 .have h:¬(24:Int)<=b.aA:=Zm;go_in;go_wp2_with (go_at_call 201;refine(uW _ _ _ _ h).mono ?_;rintro k o ⟨rfl,rfl⟩);go_end0;refine gX (a:=()) ((ao ..).aH Zq _) (by rw[lB,Y2 i]) rfl ?_;exact g.ju Zm
def JS{j}(e:Nat)(g:Rd c j b d) :
  Calls prog 184 #[Zp c.R,U e] d (eR [c.R] c j d (lA e b) tJ):=by
 obtain⟨q,r,s,t,u,w⟩:=g.al;have v:=g.bc;by_cases i:40<=b.aN
 .have h:(40:Int)<=b.aN:=Zm;go_in;go_wp2_with (go_at_call 201;refine(uV _ _ _ _ h).mono ?_;rintro k o ⟨⟨p,m,rfl,n⟩,l⟩);exact aE (fC (f:=⟨5,e⟩) (bT _ l) (ao [] _) (by rw[lA,Y9 i]) m n)
 .have h:¬(40:Int)<=b.aN:=Zm;go_in;go_wp2_with (go_at_call 201;refine(uW _ _ _ _ h).mono ?_;rintro k o ⟨rfl,rfl⟩);go_end0;refine gX (a:=()) ((ao ..).aH Zq _) (by rw[lA,Y2 i]) rfl ?_;exact g.o9 Zm
end
section
variable {b e:Nat}{T et kt:TypeId}{d:TypeDesc}{a:Array MapEntry}{c:Type}
section
variable {P : Program} {w : Zw}
def xX(q:P.underlying T=some (.map kt et))(i:P.underlying kt=some d){k}(p:IsKey d k)
  (n:w.heap[b]? = some (.map a e)) (t:∀l∈a.toList,IsKey d l.key) {m} (u:(zeroValue et).run P w=.ok m w) (c:Bool) :
  ((∀l∈a.toList,l.key≠k)/\(Instr.lookup T (.map (some b)) k c).run P w=.ok (if c then .tuple #[m,.bool false]else m) w)\/
  (∃(j:Nat) (f:MapEntry),a.toList[j]? = some f/\f.key=k/\(Instr.lookup T (.map (some b)) k c).run P w=.ok (if c then .tuple #[f.val,.bool true]else f.val) w):=by
 have o:=λr=>MapKept.run_checkKey (w:=w) i p r 9999;rcases findNow_spec p a.toList 0 t with⟨g,h⟩|⟨j,f,g,h,s⟩
 .refine Y8 ⟨h,?_⟩;cases c<;>simp[Instr.lookup,Instr.findKey,run_underlying q,run_underlying i,MapKept.run_getObj_map n,o,g,u,Result.andThen]
 .refine Ya ⟨j,f,h,s,?_⟩;cases c<;>simp[Instr.lookup,Instr.findKey,run_underlying q,run_underlying i,MapKept.run_getObj_map n,o,g,Result.andThen]
def AR(o:P.underlying T=some (.map kt et))(h:P.underlying kt=some d){k}(i:IsKey d k)
  (g:w.heap[b]? = some (.map a e)) (n:∀c∈a.toList,IsKey d c.key) (r:∀c∈a.toList,c.key≠k) (v:Zv) :
  (Instr.mapUpdate T (.map (some b)) k v).run P w=.ok () { w with heap:=w.heap.setIfInBounds b (.map (a.push ⟨k,v,e⟩) (e+1)) }:=by
 have m:=λj=>MapKept.run_checkKey (w:=w) h i j 9999;rcases findNow_spec i a.toList 0 n with⟨f,l⟩|⟨s,p,f,l,q⟩
 .simp[Instr.mapUpdate,Instr.findKey,run_underlying o,run_underlying h,MapKept.run_getObj_map g,m,f,MapKept.run_setObj_map _ g,Result.andThen]
 grind
end
def aO(b:List (Zb×c))(a:Zb):Option c:=(b.find? λd=>d.1==a).map (·.2)
def UX{b:List (Zb×c)}{a:Zb}(e:∀d∈b,d.1≠a):aO b a=none:=by
 grind [aO]
theorem Ap{a:List (Zb×c)}{d:Zb}(f:(a.map (·.1)).Nodup){b:Zb×c}(g:b∈a)(e:b.1=d):aO a d=some b.2:=by
 induction a with
 |nil=>grind
 |cons i j h=>
  grind [aO]
def wj(e:List (Zb×Zv)):∀c∈(e.mapIdx λa b=>(⟨.string ⟨b.1.toArray⟩,b.2,a⟩:MapEntry)),IsKey .string c.key:=by
 intro c d;obtain⟨a,f,rfl⟩:=List.mem_mapIdx.1 d;trivial
end
def AA{l j c b}(q:hZ l j c b)(g:Zb)(f:Bool) :
  (aO c g=none/\(Instr.lookup 148 (.map (some j)) (Zs g) f).run prog b=.ok (if f then .tuple #[.nilIface,.bool false]else .nilIface) b)\/
  (∃o v k,aO c g=some o/\bW l k b/\mn k v o/\(Instr.lookup 148 (.map (some j)) (Zs g) f).run prog b=.ok (if f then .tuple #[v,.bool true]else v) b):=by
 obtain⟨G,k,h,x,y,r,z⟩:=q;have s:IsKey .string (Zs g):=trivial;have A:=wj (c.zip h |>.map λa=>(a.1.1,a.2));have u:(zeroValue 157).run prog b=.ok .nilIface b:=Zk;rcases xX (P:=prog) (T:=148) (kt:=9) (et:=157) (d:=.string) Zk Zk s r Zm u f with⟨i,m⟩|⟨n,p,i,m,w⟩
 .refine Y8 ⟨UX ?_,m⟩;intro a t p;obtain⟨e,B,rfl⟩:=List.getElem_of_mem t;have C:e<h.length:=Zm;have F:(⟨.string ⟨c[e].1.toArray⟩,h[e],e⟩:MapEntry)∈((c.zip h |>.map λa=>(a.1.1,a.2)).mapIdx λe a=>(⟨.string ⟨a.1.toArray⟩,a.2,e⟩:MapEntry)).toArray.toList:=by
   grind
  grind
 .simp only[List.toList_toArray,List.getElem?_mapIdx]at i;have D:n<c.length:=by
   grind
  have E:n<h.length:=Zm;rw[Yd Zu]at i;simp at i;grind [Ap]
def mI(a:Mar.aX):PM Int:=λb=>
 match aO b.K a.text with
 |some (some (.const _ _ v))=>.ok (v,b)
 |_=>.error ⟨7,a.y⟩
abbrev kW:Int->Zv:=λa=>U a
theorem LT(a:Zw):(Instr.typeAssert .nilIface 157 223 true).run prog a=.ok (.tuple #[.pointer none,.bool false]) a:=Zk
def ac8(a:Zv)(b:Zw):(Instr.typeAssert (.iface 223 a) 157 223 true).run prog b=.ok (.tuple #[a,.bool true]) b:=Zk
theorem ac7(c:aC)(f:Zv)(d:Zw)(h:∀b a v,c≠.const b a v):(Instr.typeAssert (.iface (dI c) f) 157 223 true).run prog d=.ok (.tuple #[.pointer none,.bool false]) d:=by
 cases c with
 |const b a v=>simp_all
 |typedef c=>kernel_rfl
 |enum b a e=>kernel_rfl
 |struct b a e=>kernel_rfl
 |union b a j g=>kernel_rfl
 |prog b a k i=>kernel_rfl
def Qn{d u h}(a:Mar.aX){w}(l:Rd d u h w) :
  Calls prog 267 #[Zp d.R,dx a] w (eR [] d u w (mI a h) kW):=by
 have m:=((Below.refl w.heap.size w).alloc (Y4 _) (.cells #[U a.F,Zs a.text,U a.n,U a.y] 154)).drew;obtain⟨o,p,G,H,I,L⟩:=l.al;have M:=l.lt.1;have i:=l.ah m;have key:(∃v,(Instr.lookup 148 (.map (some d.N)) (Zs a.text) false).run prog ((w.alloc (.cells #[U a.F,Zs a.text,U a.n,U a.y] 154)).drew)=.ok v ((w.alloc (.cells #[U a.F,Zs a.text,U a.n,U a.y] 154)).drew)/\
    (∀n,(Instr.typeAssert v 157 223 true).run prog n=.ok (.tuple #[.pointer none,.bool false]) n)/\mI a h=.error ⟨7,a.y⟩)\/
   (∃(c:Nat) (o p:Zv) (b:Int),(Instr.lookup 148 (.map (some d.N)) (Zs a.text) false).run prog ((w.alloc (.cells #[U a.F,Zs a.text,U a.n,U a.y] 154)).drew)=.ok (.iface 223 (Zp c)) ((w.alloc (.cells #[U a.F,Zs a.text,U a.n,U a.y] 154)).drew)/\
    (w.alloc (.cells #[U a.F,Zs a.text,U a.n,U a.y] 154)).heap[c]? = some (.cells #[o,p,U b] 343)/\mI a h=.ok (b,h)):=by
  rcases AA i.nm a.text false with⟨s,g⟩|⟨D,v,F,s,B,r,g⟩
  .simp_all[LT,mI]
  .simp only[Ye,if_false]at g
   cases D with
   |none=>
    have O:v=.nilIface:=r;grind [LT,mI]
   |some y=>
    obtain⟨c,rfl,A⟩:=r;by_cases z:∃t k b,y=.const t k b
    .obtain⟨t,k,b,rfl⟩:=z;exact Ya ⟨c,_,_,b,g,(B _ A).1,by simp only[mI,s]⟩
    simp_all[ac7,mI]
 rcases key with⟨v,g,C,e⟩|⟨c,P,S,b,g,q,e⟩
 .have j:=aa e;clear e i m;dsimp only[dx];go_in;go_wp2;go_region;go_wp2_with (go_at_call 70;refine(gZ _ _ _).mono ?_;rintro J a0 ⟨rfl,rfl⟩);exact aE (fC (M':=[]) (w1:=w) (f:=⟨7,a.y⟩) (((ao ..).H _).H _).aU (ao ..) j.w Zm (aQ (w:=w.alloc _) Zq))
 .have j:=aa e;have C:=λE=>ac8 E;have K:(w.alloc (.cells #[U a.F,Zs a.text,U a.n,U a.y] 154)).cell? (Zd c 2)=some (U b):=by simp[World.cell?,q]
  have x:=aa i;clear e i m q;dsimp only[dx];go_in;go_wp2;go_region;go_wp2;go_ret;exact gX (a:=b) (((ao ..).H _).aU) j.w rfl x.w
def kX(a:Mar.aX):PM Int:=
 if((a.F:Int)==3)then ret a.n
 else if((a.F:Int)==1)then mI a
 else if a.text==JF then ret 1
 else if a.text==JC then ret 0
 else gU 3 a.y
def Vd{a:Mar.aX}(b:((a.F:Int)==3)=true):kX a=ret a.n:=by unfold kX;simp_all
theorem IG{a:Mar.aX}(b:((a.F:Int)==3)=false)(c:((a.F:Int)==1)=true):kX a=mI a:=by simp_all[kX]
def Ve{a:Mar.aX}(b:((a.F:Int)==3)=false)(c:((a.F:Int)==1)=false)(d:(a.text==JF)=true):kX a=ret 1:=by simp_all[kX]
def Vf{a:Mar.aX}(b:((a.F:Int)==3)=false)(c:((a.F:Int)==1)=false)(d:(a.text==JF)=false)(e:(a.text==JC)=true):kX a=ret 0:=by simp_all[kX]
def Vg{a:Mar.aX}(b:((a.F:Int)==3)=false)(c:((a.F:Int)==1)=false)(d:(a.text==JF)=false)(e:(a.text==JC)=false):kX a=gU 3 a.y:=by simp_all[kX]
def Vh{d g h}(c:Mar.aX){a}(b:Rd d g h a) :
  Calls prog 245 #[Zp d.R,dx c] a (eR [] d g a (kX c h) kW):=by
 have e:=aa (λo=>Qn c (b.ah ((Below.refl a.heap.size a).alloc (Y4 _) o)));dsimp only[dx]at e ⊢;go_in;go_wp2_with (first
  |(go_at_call 70;refine(gZ _ _ _).mono ?_;rintro i s ⟨rfl,rfl⟩)
  |(go_at_call 267;refine(e.w _).mono ?_;rintro i p ⟨f,⟨r,t,n,rfl,m⟩|⟨j,n,q,k,rfl,l⟩⟩))
 .go_ret;exact gX ((ao ..).H _) (by rw[Vd ‹_›];rfl) rfl (b.ah ((Below.refl ..).alloc (Y4 _) _))
 .go_ret;exact gX (((ao ..).H _).u f) (by simp_all[IG]) rfl m
 .exact aE (fC (((ao ..).H _).u f) ((ao [] _).H _) (by simp_all[IG]) k l)
 .go_ret;exact gX ((ao ..).H _) (by rw[Ve ‹_› ‹_› ‹_›];rfl) rfl (b.ah ((Below.refl ..).alloc (Y4 _) _))
 .go_ret;exact gX ((ao ..).H _) (by rw[Vf ‹_› ‹_› ‹_› ‹_›];rfl) rfl (b.ah ((Below.refl ..).alloc (Y4 _) _))
 .exact aE (fC (M':=[]) (w1:=a) (f:=⟨3,c.y⟩) (((ao ..).H _).H _) (ao ..) (by rw[Vg ‹_› ‹_› ‹_› ‹_›];rfl) Zm (aQ Zq))
def iS(c:List Nat)(v:Zv)(i:Int->Bool)(j:Zw):Prop:=
 ∃(d:Zo) (b:Nat) (g f:Array Zv),v=.func (.func b) g f/\bW c d j/\(∀args a,(callFunc b args).run prog a=.ok (.enter b args) a)/\
  ∀a,bW c d a->∀e:Int,Calls prog b (g.push (U e)++f) a λh k=>h=.returned (.bool (i e))/\Below a.heap.size a k
def jG(d:Za)(c:Int->Bool):PM (Int×Nat):=aM (next d) λa=>aM (kX a) λb=>if c b then ret (b,a.y)else gU 8 a.y
abbrev yr:Int×Nat->Zv:=λa=>.tuple #[U a.1,U a.2]
def Mt{b u z v i j}(m:Rd b u z j)(H:iS b.X v i j) :
  Calls prog 188 #[Zp b.R,v] j (eR [b.S] b u j (jG u i z) yr):=by
 obtain⟨P,a0,a1,a2,a3,a5⟩:=m.al;obtain⟨O,l,a8,a7,rfl,I,a4,G⟩:=H;have C:=aa I;have B:=aa G;have A:=aa (uO m);go_in;go_wp2_with (first
  |(go_at_call 118;refine A.w.mono ?_;rintro f d ⟨q,⟨c,b4,h,rfl,x⟩|⟨l,h,F,o,rfl,p⟩⟩<;>(try dsimp only[dx]);have e:=aa q;have Hx:=aa h;have D:=aa x;clear q h x)
  |(go_at_call 245;refine(Vh c (D.w.ah ((Below.refl ..).alloc (Y4 _) _))).mono ?_;rintro f b3 ⟨g,⟨t,b5,s,rfl,K⟩|⟨l,s,F,o,rfl,p⟩⟩<;>(try dsimp only[kW]))
  |(go_at_call 70;refine(gZ _ _ _).mono ?_;rintro f M ⟨rfl,rfl⟩))
 .have J:=(C.w.ac e.w (by simp;exact m.az.2.1)).ac (bT [] ((Below.refl d.heap.size d).alloc (Y4 _) (.cells #[U c.F,Zs c.text,U c.n,U c.y] 154))) Zq |>.ac g Zq;refine(B.w _ J _).mono ?_;rintro f N ⟨rfl,n⟩;have y:=(g.L d.heap.size Zq Zq).trans (aQ rfl);have L:=(n.block d.heap.size (au y)).trans y;obtain⟨a9,b0,b1,b2,a6⟩:=lG L;have k:=aa (((e.w.H _).u (g.ak Zq)).u (bT [b.S] n));have E:=aa (K.ah n);have w:=aa s;go_wp2_with (go_at_call 70;refine(gZ _ _ _).mono ?_;rintro f M ⟨rfl,rfl⟩)
  .have r:i t=false:=Zu;refine aE (fC (M':=[b.S]) (w1:=N) (f:=⟨8,c.y⟩) (k.w.H _) k.w ((aK Hx.w).trans ((aK w.w).trans ?_)) (Y4 _) (aQ rfl));rw[r];rfl
  .have r:i t=true:=Zu;go_region;go_wp2;go_ret2;exact gX (a:=(t,c.y)) k.w.aU ((aK Hx.w).trans ((aK w.w).trans (by rw[r];rfl))) rfl (E.w.ah ((Below.refl ..).drew))
 .exact aE (fC ((e.w.H _).u (g.ak Zq)) (e.w.H _) ((aK Hx.w).trans (bO s)) o p)
 .exact aE (fC q (ao [] _) (bO h) o p)
section
variable {c A':Ad}{e:List Nat}{p:Int->Bool}{w:Zw}{d:St}
def dV(c b:Int):Int->Bool:=λa=>decide (c<=a)&&decide (a<=b)
def aeE(d c e:Int)(b a:Nat)(w:Zw)(i:w.cell? (Zd b 0)=some (U d))(h:w.cell? (Zd a 0)=some (U c)) :
  Calls prog 246 #[U e,Zp b,Zp a] w λf g=>f=.returned (.bool (dV d c e))/\Below w.heap.size w g:=by
 go_in;go_wp2;all_goals
  go_ret
  refine⟨oE ?_,Below.refl ..⟩
  unfold dV
  simp
  try omega
def aeF(args:Array Zv)(w:Zw):(callFunc 246 args).run prog w=.ok (.enter 246 args) w:=Zk
def vl(b a:Int)(w:Zw) :
  Calls prog 189 #[U b,U a] w λh f=>∃v,h=.returned v/\Below w.heap.size w f/\∀c:List Nat,(∀k∈c,k<w.heap.size)->iS c v (dV b a) f:=by
 have o:=je;go_in;go_wp2;go_ret;refine⟨.func (.func 246) #[] #[Zp w.heap.size,.pointer (some ⟨w.heap.size+1,0,none⟩)],rfl,((Below.refl ..).alloc (Y4 _) _).alloc Zq _,?_⟩;intro c n;refine⟨[(w.heap.size,.cells #[U b] 2),(w.heap.size+1,.cells #[U a] 2)],_,_,_,rfl,?_,aeF,?_⟩
 .intro p e;simp at e;rcases e with rfl|rfl
  .exact⟨(Below.heap_alloc _ _ _ Zq).trans (aQ rfl),λi=>by grind⟩
  .exact⟨aQ Zq,λi=>by grind⟩
 .intro g d j;have l:=(d _ (Yb ..)).1;have m:=(d _ (Y5 _ (Yb ..))).1;exact aeE b a j _ _ g (by grind [World.cell?]) (by grind [World.cell?])
abbrev rD:Int×Bool->Zv:=λa=>.agg #[U a.1,.bool a.2]
def pt(a:Za):PM (Int×Bool):=aM (cI a [60]) λ_=>aM (eu a [62]) λc=>
 if c then ret (4294967295,false)else aM (jG a (dV 0 4294967295)) λb=>aM (cI a [62]) λ_=>ret (b.1,false)
def iS.ac{a v b}(f:iS a v p w)(k:an e w b)(g:∀m∈e,m∈a):iS a v p b:=by
 obtain⟨c,d,o,n,l,j,i,h⟩:=f;exact⟨c,d,o,n,l,j.ac k g,i,h⟩
def fW(A' c:Ad):Prop:=A'.R=c.R/\A'.S=c.S/\A'.N=c.N/\A'.P=c.P
theorem fX(c:Ad)(b:Nat):fW (c.a1 b) c:=⟨rfl,rfl,rfl,rfl⟩
def gS(e:fW A' c){b}(a:Za)(f:Rd A' b d w) :
  Calls prog 187 #[Zp c.R,.string a] w (eR [c.S] A' b w (cI b a.data.toList d) dx):=by
 have:=vX a f;rw[e.1,e.2.1]at this;exact this
def rx(e:fW A' c){b}(a:Za)(f:Rd A' b d w) :
  Calls prog 192 #[Zp c.R,.string a] w (eR [c.S] A' b w (eu b a.data.toList d) .bool):=by
 have:=xr a f;rw[e.1,e.2.1]at this;exact this
def EY(b:fW A' c){a v}(e:Rd A' a d w)(f:iS A'.X v p w) :
  Calls prog 188 #[Zp c.R,v] w (eR [c.S] A' a w (jG a p d) yr):=by
 have:=Mt e f;rw[b.1,b.2.1]at this;exact this
def om{a:Nat}{b c:Zv}{d}(f:w.heap[a]? = some (.cells #[b,c] d)) :
  w.cell? (Zd a 0)=some b/\w.cell? (Zd a 1)=some c/\∀e,w.frozen? ⟨a,e,none⟩=false:=by
 grind [World.cell?,World.frozen?]
def xL{d m f a}(g:Rd c d m w)(j:an e w a)(n:Rd (c.a1 w.heap.size) d f a)(h i:Zv) :
  an e w ((a.setCell ⟨w.heap.size,0,none⟩ h).setCell ⟨w.heap.size,1,none⟩ i)/\Rd c d f ((a.setCell ⟨w.heap.size,0,none⟩ h).setCell ⟨w.heap.size,1,none⟩ i):=by
 refine⟨(j.b4 (Y4 _) _).b4 (Y4 _) _,tZ (b:=w.heap.size) g.az ?_⟩;have o:=λ{a:Zw} (k:Rd (c.a1 w.heap.size) d f a) (l:Nat) (v:Zv)=>vH (A':=c.a1 w.heap.size) g ⟨rfl,rfl,rfl,rfl⟩ k (p:=⟨w.heap.size,l,none⟩) (Y4 _) (by simp[Ad.a1]) v;simp_all
def Wi{H}(i:Rd c H d w) :
  Calls prog 248 #[Zp c.R] w (eR [c.S] c H w (pt H d) rD):=by
 have a8:=i.lt.2.1;have j:w.heap.size ∉ [c.S]:=Zg;have J:=aQ (w:=w) (o:=.cells #[U 0,.bool false] 375) rfl;have O:=i.ae (.cells #[U 0,.bool false] 375);have x:=(ao [c.S] w).H (.cells #[U 0,.bool false] 375);go_in;go_wp21;refine(gS (fX c _) _ O).mono ?_;rintro h a9 ⟨y,⟨b4,b6,f,rfl,a3⟩|⟨m,f,l,b,rfl,e⟩⟩;rotate_left
 .exact aE (fC (x.u y) x (bO f) b e)
 have K:=(y.L _ (au J) j).trans J;have q:=x.u y;go_wp21;refine(rx (fX c _) _ a3).mono ?_;rintro h b0 ⟨z,⟨a7,b7,g,rfl,C⟩|⟨m,g,l,b,rfl,e⟩⟩;rotate_left
 .exact aE (fC (q.u z) q ((aK f).trans (bO g)) b e)
 have t:=(z.L _ (au K) j).trans K;have I:=q.u z;obtain⟨F,G,a2⟩:=om t;cases a7 with
 |true=>
  go_wp2;obtain⟨n,p⟩:=xL i I C (U 4294967295) (.bool false);exact bodyPost_ret (v:=.agg #[U 4294967295,.bool false]) (by simp[results,results248,go_sem,F,G]) rfl (gX (a:=(4294967295,false)) n ((aK f).trans (aK g)) rfl p)
 |false=>
  go_wp21;refine(vl _ _ _).mono ?_;rintro h b1 ⟨v,rfl,u,a0⟩;have a1:=a0 (c.a1 w.heap.size).X C.a3;have a4:=C.ah u;have r:=I.u (bT [c.S] u);have L:=(u.block _ (au t)).trans t;go_wp21;refine(EY (fX c _) a4 a1).mono ?_;rintro h b2 ⟨A,⟨E,b8,k,rfl,a5⟩|⟨m,k,l,b,rfl,e⟩⟩;rotate_left
  .exact aE (fC (r.u A) r ((aK f).trans ((aK g).trans (bO k))) b e)
  have s:=r.u A;have M:=(A.L _ (au L) j).trans L;dsimp only[yr];go_wp21;refine(gS (fX c _) _ a5).mono ?_;rintro h b3 ⟨B,⟨b5,b9,D,rfl,a6⟩|⟨m,D,l,b,rfl,e⟩⟩;rotate_left
  .exact aE (fC (s.u B) s ((aK f).trans ((aK g).trans ((aK k).trans (bO D)))) b e)
  have N:=s.u B;have P:=(B.L _ (au M) j).trans M;obtain⟨F,G,a2⟩:=om P;go_wp2;obtain⟨n,p⟩:=xL i N a6 (U E.1) (.bool false);exact bodyPost_ret (v:=.agg #[U E.1,.bool false]) (by simp[results,results248,go_sem,F,G]) rfl (gX (a:=(E.1,false)) n ((aK f).trans ((aK g).trans ((aK k).trans (aK D)))) rfl p)
end
section
variable {b:Ad}{w:Zw}{c:St}
def IX{a}(e:fW a b){d}(f:Rd a d c w) :
  Calls prog 248 #[Zp b.R] w (eR [b.S] a d w (pt d c) rD):=by
 have:=Wi f;rw[e.1,e.2.1]at this;exact this
def lT(a:Za):PM (Int×Bool):=aM (eu a [91]) λc=>
 if c then aM (jG a (dV 1 1000)) λb=>aM (cI a [93]) λ_=>ret (b.1,true)else pt a
def PB{J}(j:Rd b J c w) :
  Calls prog 247 #[Zp b.R] w (eR [b.S] b J w (lT J c) rD):=by
 have a6:=j.lt.2.1;have n:w.heap.size ∉ [b.S]:=Zg;have K:=aQ (w:=w) (o:=.cells #[U 0,.bool false] 375) rfl;have N:=j.ae (.cells #[U 0,.bool false] 375);have y:=(ao [b.S] w).H (.cells #[U 0,.bool false] 375);go_in;go_wp21;refine(rx (fX b _) _ N).mono ?_;rintro i a7 ⟨z,⟨a5,b1,g,rfl,D⟩|⟨r,g,q,e,rfl,f⟩⟩;rotate_left
 .exact aE (fC (y.u z) y (bO g) e f)
 have l:=(z.L _ (au K) n).trans K;have k:=y.u z;cases a5 with
 |false=>
  go_wp21;refine(IX (fX b _) D).mono ?_;rintro i a4 ⟨A,⟨d,b2,F,rfl,E⟩|⟨r,F,q,e,rfl,f⟩⟩;rotate_left
  .exact aE (fC (k.u A) k ((aK g).trans F) e f)
  have h:=k.u A;have m:=(A.L _ (au l) n).trans l;obtain⟨H,I,a1⟩:=om m;dsimp only[rD];go_wp2;obtain⟨s,t⟩:=xL j h E (U d.1) (.bool d.2);exact bodyPost_ret (v:=.agg #[U d.1,.bool d.2]) (by simp[results,results247,go_sem,H,I]) rfl (gX (a:=d) s ((aK g).trans F) rfl t)
 |true=>
  go_wp21;refine(vl _ _ _).mono ?_;rintro i a4 ⟨v,rfl,x,P⟩;have a0:=P (b.a1 w.heap.size).X D.a3;have E:=D.ah x;have h:=k.u (bT [b.S] x);have m:=(x.block _ (au l)).trans l;go_wp21;refine(EY (fX b _) E a0).mono ?_;rintro i a8 ⟨B,⟨d,b3,p,rfl,a2⟩|⟨r,p,q,e,rfl,f⟩⟩;rotate_left
  .exact aE (fC (h.u B) h ((aK g).trans (bO p)) e f)
  have u:=h.u B;have L:=(B.L _ (au m) n).trans m;dsimp only[yr];go_wp21;refine(gS (fX b _) _ a2).mono ?_;rintro i a9 ⟨C,⟨b0,b4,G,rfl,a3⟩|⟨r,G,q,e,rfl,f⟩⟩;rotate_left
  .exact aE (fC (u.u C) u ((aK g).trans ((aK p).trans (bO G))) e f)
  have M:=u.u C;have O:=(C.L _ (au L) n).trans L;obtain⟨H,I,a1⟩:=om O;go_wp2;obtain⟨s,t⟩:=xL j M a3 (U d.1) (.bool true);exact bodyPost_ret (v:=.agg #[U d.1,.bool true]) (by simp[results,results247,go_sem,H,I]) rfl (gX (a:=(d.1,true)) s ((aK g).trans ((aK p).trans (aK G))) rfl t)
def pG(a:Za):PM Ty:=aM (eu a Jt) λb=>if b then ret .void else pK a
def aby{i}(p:Rd b i c w) :
  Calls prog 269 #[Zp b.R] w (eR [b.S] b i w (pG i c) cW):=by
 have l:=aa (xr ⟨#[118,111,105,100]⟩ p);go_in;go_wp21;refine l.w.mono ?_;rintro n t ⟨d,⟨r,v,e,rfl,k⟩|⟨o,e,m,f,rfl,g⟩⟩;rotate_left
 .exact aE (fC d (ao [] _) (bO e) f g)
 cases r with
 |true=>
  go_wp2;go_ret;exact gX (a:=.void) d ((aK e).trans rfl) rfl k
 |false=>
  go_wp21;refine(Ml k).mono ?_;rintro n u ⟨j,⟨s,x,h,rfl,q⟩|⟨o,h,m,f,rfl,g⟩⟩;rotate_left
  .exact aE (fC (d.u j) d ((aK e).trans h) f g)
  go_wp2;go_ret;exact gX (d.u j) ((aK e).trans h) rfl q
end
abbrev eG(a:Zw)(b:Nat)(c:Obj):Zw:={ a with heap:=a.heap.setIfInBounds b c }
theorem jC(b:Zw)(a:Nat)(c:Obj):an [a] b (eG b a c):=by
 refine⟨rfl,rfl,rfl,Zq,λe _ d=>?_⟩;grind
def qH{c:Zw}{a:Nat}(d:a<c.heap.size)(b:Obj):(eG c a b).heap[a]? = some b:=by
 simp_all
theorem JM(a:List (Zb×Zv))(b:Zb)(v:Zv) :
  uJ (a++[(b,v)])=.map ((a.mapIdx λd c=>(⟨.string ⟨c.1.toArray⟩,c.2,d⟩:MapEntry)).toArray.push ⟨Zs b,v,a.length⟩) (a.length+1):=by
 grind [uJ]
theorem hZ.a4{f b a e}(m:hZ f b a e)(t:b∈f){k:Zb}(y:aO a k=none) :
  ∃i,(Instr.mapUpdate 148 (.map (some b)) (Zs k) .nilIface).run prog e=.ok () (eG e b i)/\hZ f b (a++[(k,none)]) (eG e b i):=by
 obtain⟨B,l,j,n,o,g,s⟩:=m;have x:=au g;have z:∀c∈a,c.1≠k:=by
  intro c A r;grind [Ap]
 have u:=wj (a.zip j |>.map λc=>(c.1.1,c.2));have q:=AR (P:=prog) (T:=148) (kt:=9) (et:=157) (d:=.string) Zk Zk (k:=Zs k) trivial g Zm (by
  grind) .nilIface
 refine⟨_,q,?_,l,j++[.nilIface],n.ac (jC ..) Zu,Zg,?_,?_⟩
 .simp only[List.map_append,List.map_cons,List.map_nil];rw[YJ];grind
 .simp_all[List.zip_append,JM]
 .intro h p v;by_cases w:h<a.length
  .simp_all
  .simp at p;have:h=a.length:=Zm;subst this;simp[mn,o.symm]
section
variable {c:Ad}{w:Zw}{d:St}
def iI(a:Mar.aX):PM Unit:=λd=>
 match aO d.K a.text with
 |none=>.ok ((),{ d with K:=d.K++[(a.text,none)] })
 |some _=>.error ⟨6,a.y⟩
def Rd.kJ{k j g}(a:Rd c k d w)(f:hZ c.X c.N j (eG w c.N g)):Rd c k { d with K:=j } (eG w c.N g):=by
 obtain⟨q,r,E,s⟩:=a.lt;obtain⟨G,H,I,J,K,L⟩:=a.ca;have e:=jC w c.N g;obtain⟨y,x,D⟩:=a.nm.f3;refine⟨(e.L _ q Zg).trans a.me,?_,f,a.az,λl o=>Yr (a.a3 l o) e.aD,(e.L _ s Zg).trans a.pr,a.np,?_,a.dO,a.bc⟩
 .obtain⟨n,b⟩:=a.sc;have i:=e.L _ r Zg;refine⟨n,?_⟩;cases f:d.nx with
  |some l=>rw[f]at b;exact i.trans b
  |none=>rw[f]at b;obtain⟨p,u,t,m,b⟩:=b;exact⟨p,u,t,m,i.trans b⟩
 .have z:∀h v,w.cell? (Zd h 0)=some v->h≠c.N:=by
   grind [World.cell?]
  obtain⟨⟨F,A⟩,⟨_,_,B⟩,⟨_,_,C⟩⟩:=id a.gl;exact a.gl.ac e Zu Zu Zu
def ade{j}(b:Mar.aX)(e:Rd c j d w) :
  Calls prog 244 #[.map (some c.N),Zs b.text,.nilIface,U b.y] w (eR [c.N] c j w (iI b d) tJ):=by
 rcases AA e.nm b.text true with⟨g,i⟩|⟨m,v,n,g,q,p,i⟩
 .simp only[if_true]at i
  obtain⟨m,r,l⟩:=e.nm.a4 e.az.2.2.1 g;have k:=aa (e.kJ l);have h:af (iI b d=.ok ((),{ d with K:=d.K++[(b.text,none)] })):=by show _=_;simp only[iI,g]
  go_in;go_wp2;go_end0;exact gX (a:=()) (jC ..) h.w rfl k.w
 .simp only[if_true]at i
  have h:af (iI b d=.error ⟨6,b.y⟩):=by show _=_;simp only[iI,g]
  go_in;go_wp2_with (go_at_call 70;refine(gZ _ _ _).mono ?_;rintro o s ⟨rfl,rfl⟩);exact aE (fC (M':=[]) (w1:=w) (f:=⟨6,b.y⟩) ((ao ..).H _) (ao ..) h.w (Y4 _) (aQ rfl))
def an.ba{a d}(g:an a w d){b c:Nat}{v}(f:b ∉ a)(e:w.cell? (Zd b c)=some v):d.cell? (Zd b c)=some v:=by
 have:=g.L b (jy e) f;grind [World.cell?]
def QL{k}(b:Mar.aX)(i:Rd c k d w) :
  Calls prog 186 #[Zp c.R,dx b] w (eR [c.N] c k w (iI b d) tJ):=by
 obtain⟨J,z,K,L,M,a0⟩:=i.al;have a1:=i.lt.1;have a2:=i.lt.2.2.1;have P:=i.ca.2.1;have F:=((ao [c.N] w).H (.cells #[U b.F,Zs b.text,U b.n,U b.y] 154)).aU;have r:=aa (ade b (i.ah (((Below.refl w.heap.size w).alloc (Y4 _) (.cells #[U b.F,Zs b.text,U b.n,U b.y] 154)).drew)));have B:=aQ (w:=w) (o:=.cells #[U b.F,Zs b.text,U b.n,U b.y] 154) rfl;obtain⟨a7,H,a8,I,_⟩:=lG B;have G:(w.alloc (.cells #[U b.F,Zs b.text,U b.n,U b.y] 154)).cell? (Zd c.R 1)=some (.map (some c.N)):=vS ((Below.refl w.heap.size w).alloc (Y4 _) _) rfl z;have x:=aa H;have y:=aa I;have u:=aa G;have m:=aa F;have kV:∀(g:Mar.ay) (e:Nat) (h:Zw),iI b d=.error g->w.heap.size+1<=e->an [c.N] w h->h.heap[e]? = some (.cells #[U g.no,U g.y] 179)->
   eR [c.N] c k w (iI b d) tJ (.panicked [{ v:=.iface 143 (Zp e),recovered:=false }]) h:=by
  intro g e h E S f C;exact fC (M':=[]) (w1:=w) f (ao ..) E Zm C
 have q:=aa kV;dsimp only[dx];go_in;go_wp2;go_region_held2 (λl=>l.cell? (Zd c.R 1)=some (.map (some c.N))/\l.cell? (Zd w.heap.size 1)=some (Zs b.text)/\l.cell? (Zd w.heap.size 3)=some (U b.y)) (go_keep)
  (first|(go_at_call 244;refine r.w.mono ?_;rintro O h ⟨f,⟨a6,a9,j,rfl,p⟩|⟨g,j,e,A,rfl,D⟩⟩;rotate_left;exact aE (q.w g e h j (by simpa using A) (m.w.u f) D);have a3:=f.ba Zg u.w;have a4:=f.ba (b:=w.heap.size) Zg x.w;have a5:=f.ba (b:=w.heap.size) Zg y.w;have s:=aa f;have Hx:=aa j;have t:=aa p;clear f j p))
 go_wp2;go_end0;exact gX (a:=()) (m.w.u s.w) Hx.w rfl t.w
end
section
variable {a:Zc}{c:Nat}{b:Zw}
def eC(c:Nat)(a:Zc)(b:Zw):Prop:=a.Nodup/\∃d:Zl,d.length=a.length/\b.heap[c]? = some (uJ (a.zip d))
def eC.ac{f d}(g:eC c a b)(i:an d b f)(j:c ∉ d):eC c a f:=by
 obtain⟨k,l,h,e⟩:=g;exact⟨k,l,h,(i.L _ (au e) j).trans e⟩
theorem eC.lt(d:eC c a b):c<b.heap.size:=by
 obtain⟨g,h,e,f⟩:=d;grind
def Et(j:eC c a b)(k:Zb) :
  (k ∉ a/\(Instr.lookup 103 (.map (some c)) (Zs k) true).run prog b=.ok (.tuple #[U 0,.bool false]) b)\/
  (∃v,k∈a/\(Instr.lookup 103 (.map (some c)) (Zs k) true).run prog b=.ok (.tuple #[v,.bool true]) b):=by
 obtain⟨x,f,q,l⟩:=j;have r:=wj (a.zip f);have n:(zeroValue 3).run prog b=.ok (U 0) b:=Zk;rcases xX (P:=prog) (T:=103) (kt:=9) (et:=3) (d:=.string) Zk Zk (k:=Zs k) trivial l Zm n true with⟨h,i⟩|⟨w,o,h,i,p⟩
 .refine Y8 ⟨?_,Zu⟩;intro m;obtain⟨e,s,rfl⟩:=List.getElem_of_mem m;have t:e<f.length:=Zm;have u:(⟨.string ⟨a[e].toArray⟩,f[e],e⟩:MapEntry)∈((a.zip f).mapIdx λe g=>(⟨.string ⟨g.1.toArray⟩,g.2,e⟩:MapEntry)).toArray.toList:=by
   grind
  grind
 grind
theorem eC.a4(h:eC c a b){k:Zb}(n:k ∉ a)(v:Zv) :
  ∃f,(Instr.mapUpdate 103 (.map (some c)) (Zs k) v).run prog b=.ok () (eG b c f)/\eC c (a++[k]) (eG b c f):=by
 obtain⟨o,g,j,e⟩:=h;have m:=au e;have l:=wj (a.zip g);have i:=AR (P:=prog) (T:=103) (kt:=9) (et:=3) (d:=.string) Zk Zk (k:=Zs k) trivial e Zm (by
  grind) v
 refine⟨_,i,?_,g++[v],Zg,?_⟩
 .rw[YJ];grind
 simp_all[List.zip_append,JM]
def oY(b:Mar.aX)(a:Zc):Except Mar.ay (Zc):=if a.contains b.text then .error ⟨6,b.y⟩else .ok (a++[b.text])
def adf(d:Mar.aX)(i:eC c a b) :
  Calls prog 252 #[.map (some c),Zs d.text,U d.y,U d.y] b λg e=>an [c] b e /\
   ((∃k,oY d a=.ok k/\g=.returned (.tuple #[])/\eC c k e)\/(∃h,oY d a=.error h/\fm b h.no h.y g e)):=by
 rcases Et i d.text with⟨j,n⟩|⟨v,j,n⟩
 .obtain⟨p,o,m⟩:=i.a4 j (U d.y);have l:=aa m;have f:af (oY d a=.ok (a++[d.text])):=by simp_all[oY]
  go_in;go_wp2;go_end0;exact⟨jC ..,Y8 ⟨_,f.w,rfl,l.w⟩⟩
 .have f:af (oY d a=.error ⟨6,d.y⟩):=by show _=_;simp_all[oY]
  go_in;go_wp2_with (go_at_call 70;refine(gZ _ _ _).mono ?_;rintro g e ⟨rfl,rfl⟩);exact aE ⟨(ao ..).H _,Ya ⟨⟨6,d.y⟩,f.w,b.heap.size,Y4 _,rfl,aQ rfl⟩⟩
def OW{j}(f:Mar.aX)(n:eC c a b)(o:b.cell? (Zd j 0)=some (.map (some c))) :
  Calls prog 251 #[dx f,Zp j] b λg i=>an [c] b i /\
   ((∃e,oY f a=.ok e/\g=.returned (.tuple #[])/\eC c e i)\/(∃d,oY f a=.error d/\fm b d.no d.y g i)):=by
 have t:=jy o;have l:=aa (λs=>adf f (n.ac (bT [] ((Below.refl b.heap.size b).alloc (Y4 _) s)) Zq));dsimp only[dx];go_in;go_wp2_with (go_at_call 252;refine(l.w _).mono ?_;rintro g u ⟨k,⟨e,h,rfl,r⟩|⟨d,h,m,p,rfl,q⟩⟩)
 .go_end0;exact⟨((ao ..).H _).u k,Y8 ⟨e,h,rfl,r⟩⟩
 .exact aE ⟨((ao ..).H _).u k,Ya ⟨d,h,m,by simp at p;omega,rfl,q⟩⟩
end
section
variable {m:Ad}{l:List Nat}{f:Mar.ay}{c:List (Int×Int)}{e:Nat}{b h:Zw}{g n τ:Type}{i j:St}
def dH(e:Nat)(c:List (Int×Int))(b:Zw):Prop:=b.heap[e]? = some (AK c)
def dH.ac(a:dH e c b)(d:an l b h)(f:e ∉ l):dH e c h:=(d.L _ (au a) f).trans a
def Ke(c:List (Int×Int)):∀d∈(c.mapIdx λa b=>(⟨.int .i64 b.1,.int .i64 b.2,a⟩:MapEntry)),IsKey (.int .i64) d.key:=by
 intro d e;obtain⟨a,f,rfl⟩:=List.mem_mapIdx.1 e;rfl
def Xf(i:dH e c b)(k:Int) :
  (k ∉ c.map (·.1)/\(Instr.lookup 149 (.map (some e)) (.int .i64 k) true).run prog b=.ok (.tuple #[.int .i64 0,.bool false]) b)\/
  (∃v,k∈c.map (·.1)/\(Instr.lookup 149 (.map (some e)) (.int .i64 k) true).run prog b=.ok (.tuple #[v,.bool true]) b):=by
 have p:=Ke c;have m:(zeroValue 3).run prog b=.ok (.int .i64 0) b:=Zk;rcases xX (P:=prog) (T:=149) (kt:=2) (et:=3) (d:=.int .i64) Zk Zk (k:=.int .i64 k) rfl i Zm m true with⟨g,h⟩|⟨s,n,g,h,o⟩
 .refine Y8 ⟨?_,Zu⟩;intro j;obtain⟨f,l,rfl⟩:=YE.1 j;obtain⟨a,q,rfl⟩:=List.getElem_of_mem l;have r:(⟨.int .i64 c[a].1,.int .i64 c[a].2,a⟩:MapEntry)∈(c.mapIdx λa f=>(⟨.int .i64 f.1,.int .i64 f.2,a⟩:MapEntry)).toArray.toList:=by
   grind
  grind
 grind
theorem dH.a4(a:dH e c b){k:Int}(i:k ∉ c.map (·.1))(v:Int) :
  ∃f,(Instr.mapUpdate 149 (.map (some e)) (.int .i64 k) (.int .i64 v)).run prog b=.ok () (eG b e f)/\dH e (c++[(k,v)]) (eG b e f):=by
 have h:=au a;have g:=Ke c;have j:=AR (P:=prog) (T:=149) (kt:=2) (et:=3) (d:=.int .i64) Zk Zk (k:=.int .i64 k) rfl a Zm (by
  grind) (.int .i64 v)
 grind [dH,AK]
def nC(a b:Int)(c:List (Int×Int))(f:Mar.ay):Except Mar.ay (List (Int×Int)):=if(c.map (·.1)).contains a then .error f else .ok (c++[(a,b)])
def LV(d:Int)(a:Nat)(k:dH e c b) :
  Calls prog 268 #[.map (some e),.int .i64 d,.int .i64 a,.int .i64 a] b λi h=>an [e] b h /\
   ((∃m j,nC d a c ⟨6,a⟩=.ok m/\i=.returned (.tuple #[])/\h=eG b e j/\dH e m h)\/(∃f,nC d a c ⟨6,a⟩=.error f/\fm b f.no f.y i h)):=by
 rcases Xf k d with⟨l,p⟩|⟨v,l,p⟩
 .obtain⟨j,q,o⟩:=k.a4 l a;have n:=aa o;have g:af (nC d a c ⟨6,a⟩=.ok (c++[(d,(a:Int))])):=by simp_all[nC]
  go_in;go_wp2;go_end0;exact⟨jC ..,Y8 ⟨_,j,g.w,rfl,rfl,n.w⟩⟩
 .have g:af (nC d a c ⟨6,a⟩=.error ⟨6,a⟩):=by show _=_;simp_all[nC]
  go_in;go_wp2_with (go_at_call 70;refine(gZ _ _ _).mono ?_;rintro i h ⟨rfl,rfl⟩);exact aE ⟨(ao ..).H _,Ya ⟨⟨6,a⟩,g.w,b.heap.size,Y4 _,rfl,aQ rfl⟩⟩
def mp(l:List Nat)(m:Ad)(n:Za)(b:Zw)(d:Except Mar.ay (g×τ×St))(k:g->Zv)(i:τ->Zw->Prop)(c:Ending)(h:Zw):Prop:=
 an l b h/\((∃a e j,d=.ok (a,e,j)/\c=.returned (k a)/\Rd m n j h/\i e h)\/(∃f,d=.error f/\fm b f.no f.y c h))
abbrev PX(τ g:Type):=τ->St->Except Mar.ay (g×τ×St)
def lift(b:PM g):PX τ g:=λc i=>match b i with
 |.ok (a,j)=>.ok (a,c,j)
 |.error f=>.error f
def aP(c:PX τ g)(b:g->PX τ n):PX τ n:=λd i=>match c d i with
 |.ok (a,e,j)=>b a e j
 |.error f=>.error f
def dA(a:g):PX τ g:=λb i=>.ok (a,b,i)
def oI(a:τ->Except Mar.ay τ):PX τ Unit:=λb i=>match a b with
 |.ok c=>.ok ((),c,i)
 |.error f=>.error f
def bF{b:PM g}{c:τ}{a:g}(d:b i=.ok (a,j)):lift b c i=.ok (a,c,j):=by simp only[lift,d]
theorem cZ{a:PM g}{c:τ}(b:a i=.error f):lift a c i=.error f:=by simp only[lift,b]
def bf{c:PX τ g}{b:g->PX τ n}{d e:τ}{a:g}(f:c d i=.ok (a,e,j)):aP c b d i=b a e j:=by simp only[aP,f]
theorem bR{a:PX τ g}{d:g->PX τ n}{b:τ}(c:a b i=.error f):aP a d b i=.error f:=by simp only[aP,c]
theorem wy{a:τ->Except Mar.ay τ}{b c:τ}(d:a b=.ok c):oI a b i=.ok ((),c,i):=by simp only[oI,d]
theorem wx{a:τ->Except Mar.ay τ}{b:τ}(c:a b=.error f):oI a b i=.error f:=by simp only[oI,c]
def hx(b:Za)(a:Int->Bool):PX (List (Int×Int)) Int:=aP (lift (jG b a)) λe=>aP (oI λc=>nC e.1 e.2 c ⟨6,e.2⟩) λ_=>dA e.1
theorem oQ{f}{e:Except Mar.ay (g×τ×St)}{d:g->Zv}{c:τ->Zw->Prop}{a:g}{t:τ}{v:Zv}
  (n:an l b h) (o:e=.ok (a,t,j)) (p:v=d a) (i:Rd m f j h) (k:c t h):mp l m f b e d c (.returned v) h:=⟨n,Y8 ⟨a,t,j,o,by rw[p],i,k⟩⟩
def hl{M' p w1}{c:Except Mar.ay (g×τ×St)}{e d}{a:Nat}
  (k:an l b h) (n:an M' b w1) (o:c=.error f) (i:w1.heap.size<=a) (j:h.heap[a]? = some (.cells #[.int .i64 f.no,.int .i64 f.y] 179)) :
  mp l m p b c e d (.panicked [{ v:=.iface 143 (Zp a),recovered:=false }]) h:=
 ⟨k,Ya ⟨f,o,a,Yz n.aD i,rfl,j⟩⟩
end
section
variable {b:Ad}{f:List (Int×Int)}{g:Int->Bool}{c:Nat}{d:Zw}{e:St}
def dK(b:Ad)(c:Nat):Prop:=c∈b.X/\c≠b.R/\c≠b.S/\c≠b.N/\c≠b.P
def Rd.j9{g h j i}(f:Rd b g e d)(k:an [c] d h)(l:dK b c)(q:d.heap[c]? = some (.map j i)):Rd b g e h:=by
 obtain⟨s,t,u,w,x⟩:=l;have m:∀a v,d.cell? (Zd a 0)=some v->a≠c:=by
  grind [World.cell?]
 obtain⟨⟨r,n⟩,⟨_,_,o⟩,⟨_,_,p⟩⟩:=id f.gl;exact f.ac k Zu Zg Zg Zg Zg Zu Zu Zu
def Mu{a v}(f:Rd b a e d)(h:iS b.X v g d) :
  Calls prog 188 #[Zp b.R,v] d (eR [b.S] b a d (jG a g e) λc=>.tuple #[U c.1,U c.2]):=Mt f h
def JZ{o v}(z:Rd b o e d)(A:iS b.X v g d)(q:dK b c)(B:dH c f d) :
  Calls prog 250 #[Zp b.R,.map (some c),v] d (mp [b.S,c] b o d (hx o g f e) kW (dH c)):=by
 have r:=aa (Mu z A);have D:c ∉ [b.S]:=by simp;exact q.2.2.1
 go_in;go_wp21;refine r.w.mono ?_;rintro x I ⟨l,⟨F,K,h,rfl,E⟩|⟨y,h,w,j,rfl,k⟩⟩;rotate_left
 .exact aE (hl (l.ak Zq) (ao [] _) (bR (cZ h)) j k)
 have p:=B.ac l D;have i:=aa (l.ak (M':=[b.S,c]) Zq);go_wp21;refine(LV _ _ p).mono ?_;rintro x J ⟨m,⟨G,H,n,rfl,rfl,C⟩|⟨y,n,w,j,rfl,k⟩⟩;rotate_left
 .exact aE (hl (i.w.u (m.ak Zq)) i.w ((bf (bF h)).trans (bR (wx n))) j k)
 have u:=aa (E.j9 m q p);have s:=aa (i.w.u (m.ak (M':=[b.S,c]) Zq));have t:=aa C;go_wp2;go_ret;exact oQ (a:=F.1) s.w ((bf (bF h)).trans (bf (wy n))) rfl u.w t.w
def pf(a:Za):PX (List (Int×Int)) Int:=aP (lift (cI a [61])) λ_=>aP (hx a (dV 0 4294967295)) λb=>aP (lift (cI a [59])) λ_=>dA b
def RB{r}(z:Rd b r e d)(w:dK b c)(D:dH c f d) :
  Calls prog 204 #[Zp b.R,.map (some c)] d (mp [b.S,c] b r d (pf r f e) kW (dH c)):=by
 have x:c ∉ [b.S]:=by simp;exact w.2.2.1
 go_in;go_wp21;refine(vX _ z).mono ?_;rintro k M ⟨o,⟨a0,a2,i,rfl,y⟩|⟨t,i,s,g,rfl,h⟩⟩;rotate_left
 .exact aE (hl (o.ak Zq) (ao [] _) (bR (cZ i)) g h)
 have E:=D.ac o x;have A:=o.ak (M':=[b.S,c]) Zq;go_wp21;refine(vl _ _ _).mono ?_;rintro k N ⟨v,rfl,n,C⟩;have B:=C b.X y.a3;have H:=y.ah n;have F:=E.ac (bT [] n) Zq;have l:=A.u (bT _ n);go_wp21;refine(JZ H B w F).mono ?_;rintro k O ⟨u,⟨K,L,a3,j,rfl,I,G⟩|⟨t,j,s,g,rfl,h⟩⟩;rotate_left
 .exact aE (hl (l.u u) l ((bf (bF i)).trans (bR j)) g h)
 have m:=l.u u;dsimp only[kW];go_wp21;refine(vX _ I).mono ?_;rintro k P ⟨p,⟨a1,a4,q,rfl,J⟩|⟨t,q,s,g,rfl,h⟩⟩;rotate_left
 .exact aE (hl (m.u (p.ak Zq)) m ((bf (bF i)).trans ((bf j).trans (bR (cZ q)))) g h)
 go_wp2;go_ret;exact oQ (a:=K) (m.u (p.ak Zq)) ((bf (bF i)).trans ((bf j).trans (bf (bF q)))) rfl J (G.ac p x)
end
section
variable {c:Ad}{w:Zw}{σ:St}{τ:Type}
structure dU(τ:Type) where
 f:Nat
 e8:Array Zv
 e7:Array Zv
 M:List Nat
 bs:Zo
 I:τ->Zw->Prop
 bb:Mar.aX->PX τ Unit
def dU.v(a:dU τ):Zv:=.func (.func a.f) a.e8 a.e7
structure lj{τ:Type}(C:dU τ)(c:Ad)(text:Za):Prop where
 d1:∀args W,(callFunc C.f args).run prog W=.ok (.enter C.f args) W
 c7:∀{t:τ} {w w':Zw} {M':List Nat},C.I t w->an M' w w'->(∀m∈M',m ∉ C.M)->C.I t w'
 hm:c.S ∉ C.M
 g1:∀m∈C.M,m∈c.X
 call:∀{A':Ad} {σ:St} {t:τ} {W:Zw} (x:Mar.aX),fW A' c->(∀b∈c.X,b∈A'.X)->Rd A' text σ W->C.I t W->bW c.X C.bs W->
  Calls prog C.f (C.e8.push (dx x)++C.e7) W (mp C.M A' text W (C.bb x t σ) tJ C.I)
def Bw{α:Type}(b a:Nat):PX τ α:=λ_ _=>.error ⟨b,a⟩
def name(c:Za)(b:dU τ):PX τ (Zb×Nat):=aP (lift (next c)) λa=>if((a.F:Int)==1)then aP (b.bb a) λ_=>dA (a.text,a.y)else Bw 3 a.y
abbrev il:Zb×Nat->Zv:=λa=>.agg #[.string ⟨a.1.toArray⟩,U a.2]
def WQ{a}(e:fW a c){b}(d:Rd a b σ w) :
  Calls prog 118 #[Zp c.S] w (eR [c.S] a b w (next b σ) dx):=by
 have:=uO d;rw[e.2.1]at this;exact this
def DG{C:dU τ}{q:Za}{t:τ}(d:lj C c q)(g:Rd c q σ w)(a7:C.I t w)(a4:bW c.X C.bs w) :
  Calls prog 185 #[Zp c.R,C.v] w (mp (c.S::C.M) c q w (name q C t σ) il C.I):=by
 obtain⟨c6,c7,c8,c9,d0,d2⟩:=g.al;have d4:=g.lt.1;have d5:=g.lt.2.1;have b3:w.heap.size ∉ c.S::C.M:=by
  simp only[Yg,not_or];exact⟨Zm,λe=>by have:=g.a3 _ (d.g1 _ e);omega⟩
 have b2:w.heap.size ∉ [c.S]:=Zu;have B:=aQ (w:=w) (o:=.cells #[.string ⟨#[]⟩,U 0] 160) rfl;have a0:=g.ae (.cells #[.string ⟨#[]⟩,U 0] 160);have x:=(ao (c.S::C.M) w).H (.cells #[.string ⟨#[]⟩,U 0] 160);have a8:=d.c7 a7 (bT [] ((Below.refl w.heap.size w).alloc (Y4 _) (.cells #[.string ⟨#[]⟩,U 0] 160))) Zq;have a5:=a4.ac (bT [] ((Below.refl w.heap.size w).alloc (Y4 _) (.cells #[.string ⟨#[]⟩,U 0] 160))) Zq;have d1:=d.d1;show Calls prog 185 #[Zp c.R,.func (.func C.f) C.e8 C.e7] w _;go_in;go_wp21;refine(WQ (fX c _) a0).mono ?_;rintro r f ⟨i,⟨b,e3,j,rfl,b4⟩|⟨A,j,z,E,rfl,s⟩⟩;rotate_left
 .exact aE (hl (x.u (i.ak Zq)) x (bR (cZ j)) E s)
 have D:=(i.L _ (au B) b2).trans B;have h:=x.u (i.ak (M':=c.S::C.M) Zq);have a9:=d.c7 a8 i (by simp;exact d.hm);have a6:=a5.ac i (by simp;exact g.az.2.1);dsimp only[dx];go_wp2_with (first|(go_at_call 70;refine(gZ _ _ _).mono ?_;rintro r d7 ⟨rfl,rfl⟩))
 .have u:((b.F:Int)==1)=false:=Zu;refine aE (hl (M':=c.S::C.M) (w1:=f) (f:=⟨3,b.y⟩) ((h.H _).H _) h ((bf (bF j)).trans ?_) Zm (aQ Zq));rw[u];rfl
 .have u:((b.F:Int)==1)=true:=Zu;have l:=(Below.refl f.heap.size f).alloc (Y4 _) (.cells #[U b.F,Zs b.text,U b.n,U b.y] 154);have F:=aQ (w:=f) (o:=.cells #[U b.F,Zs b.text,U b.n,U b.y] 154) rfl;have b7:w.heap.size<f.heap.size:=au D;refine(d.call b (fX c _) (λz a1=>Y5 _ a1) (b4.ah l) (d.c7 a9 (bT [] l) Zq) (a6.ac (bT [] l) Zq)).mono ?_;rintro r d8 ⟨m,⟨d6,c4,e4,G,rfl,b5,b0⟩|⟨A,G,z,E,rfl,s⟩⟩;rotate_left
  .refine aE (hl (M':=c.S::C.M) (w1:=f) ((h.H _).u (m.ak (λc1 e=>Y5 _ e))) h ((bf (bF j)).trans ?_) Zg s);grind [bR]
  have b9:f.heap.size ∉ C.M:=λe=>by have:=g.a3 _ (d.g1 _ e);omega
  have c0:w.heap.size ∉ C.M:=λe=>b3 (Y5 _ e);have b8:=(m.L _ (au F) b9).trans F;have a2:=(m.L _ Zg c0).trans ((l.block _ b7).trans D);have O:=(h.H (.cells #[U b.F,Zs b.text,U b.n,U b.y] 154)).u (m.ak (M':=c.S::C.M) (λc1 e=>Y5 _ e));obtain⟨d9,e0,e1,e2,_⟩:=lG b8;have J:=aa O;have y:=aa a2;have H:=aa b0;have K:=aa b5;go_wp21;refine(ES b _).mono ?_;rintro r c5 ⟨rfl,k⟩;have a3:=(k.block _ (au y.w)).trans y.w;obtain⟨c2,c3,d3⟩:=om a3;have P:=J.w.u (bT _ k);have b6:=K.w.ah k;have b1:=d.c7 H.w (bT [] k) Zq;go_wp2;obtain⟨L,N⟩:=xL g P b6 (Zs b.text) (U b.y);refine bodyPost_ret (v:=.agg #[Zs b.text,U b.y]) (by simp[results,results185,go_sem,c2,c3]) rfl (oQ (a:=(b.text,b.y)) (t:=c4) L ((bf (bF j)).trans ?_) rfl N ?_)
  .rw[u];exact bf G
  .exact d.c7 b1 (((ao [w.heap.size] c5).aH (p:=⟨w.heap.size,0,none⟩) Zq _).aH (p:=⟨w.heap.size,1,none⟩) Zq _) Zu
end
section
variable {c A':Ad}{j:Obj}{b:Nat}{g u' w:Zw}{e l n:St}{τ:Type}
theorem lj.a1{e:dU τ}{text:Za}(a:lj e c text)(b:Nat):lj e (c.a1 b) text where
 d1:=a.d1
 c7:=a.c7
 hm:=a.hm
 g1:=λl j=>Y5 _ (a.g1 l j)
 call:=λm f g k i h=>a.call m f (λb d=>g b (Y5 _ d)) k i (h.bE λb d=>Y5 _ d)
structure lK{τ:Type}(C:dU τ)(c:Ad)(text:Za)(w:Zw)(j:Obj)(t:τ)(e:St)(g:Zw):Prop where
 k:an (c.S::C.M) w g
 r:Rd (c.a1 w.heap.size) text e g
 i:C.I t g
 h:bW (c.a1 w.heap.size).X C.bs g
 d:g.heap[w.heap.size]? = some j
theorem BX{a:dU τ}{b:Za}{f:τ}(g:lj a c b)(h:Rd c b e w)(m:a.I f w)(l:bW c.X a.bs w)(j:Obj) :
  lK a c b w j f e (w.alloc j) where
 k:=(ao _ w).H j
 r:=h.ae j
 i:=g.c7 m (bT [] ((Below.refl w.heap.size w).alloc (Y4 _) j)) Zq
 h:=(l.a1 (Y4 _)).ac (bT [] ((Below.refl w.heap.size w).alloc (Y4 _) j)) Zq
 d:=aQ rfl
def lK.b3{m:dU τ}{b:Za}{q:τ}(a:lK m c b w j q e g)(p:lj m c b)(o:Rd c b n w)(f:an [c.S] g u')(s:Rd (c.a1 w.heap.size) b l u') :
  lK m c b w j q l u' where
 k:=a.k.u (f.ak Zq)
 r:=s
 i:=p.c7 a.i f (by simp;exact p.hm)
 h:=a.h.ac f (by simp;exact Y5 _ o.az.2.1)
 d:=(f.L _ (au a.d) (by have:=o.lt.2.1;grind)).trans a.d
def lK.he{f:dU τ}{m:Za}{x t:τ}(o:lK f c m w j x e g)(s:lj f c m)(p:Rd c m n w)(q:an (c.S::f.M) g u')(v:Rd (c.a1 w.heap.size) m l u')(u:f.I t u') :
  lK f c m w j t l u' where
 k:=o.k.u q
 r:=v
 i:=u
 h:=o.h.ac q (λb a=>by
  rcases Yg.1 a with rfl|a
  .exact Y5 _ p.az.2.1
  .exact Y5 _ (s.g1 b a))
 d:=(q.L _ (au o.d) (λa=>by
  rcases Yg.1 a with y|a
  .have:=p.lt.2.1;omega
  .have:=p.a3 _ (s.g1 _ a);omega)).trans o.d
def lK.ah{b:dU τ}{f:Za}{l:τ}(m:lK b c f w j l e g)(n:lj b c f)(a:Below g.heap.size g u'):lK b c f w j l e u' where
 k:=m.k.u (bT _ a)
 r:=m.r.ah a
 i:=n.c7 m.i (bT [] a) Zq
 h:=m.h.ac (bT [] a) Zq
 d:=(a.block _ (au m.d)).trans m.d
def Ax{a:dU τ}{d:Za}{g:τ}(i:lj a c d)(h:Rd (c.a1 b) d e w)(k:a.I g w)(j:bW (c.a1 b).X a.bs w) :
  Calls prog 185 #[Zp c.R,.func (.func a.f) a.e8 a.e7] w (mp (c.S::a.M) (c.a1 b) d w (name d a g e) il a.I):=DG (i.a1 b) h k j
def Ct(b:fW A' c){a}(d:Rd A' a e w) :
  Calls prog 247 #[Zp c.R] w (eR [c.S] A' a w (lT a e) rD):=by
 have:=PB d;rw[b.1,b.2.1]at this;exact this
def adS(b:fW A' c){a}(d:Rd A' a e w) :
  Calls prog 249 #[Zp c.R] w (eR [c.S] A' a w (pK a e) cW):=by
 have:=Ml d;rw[b.1,b.2.1]at this;exact this
def Bh(d:fW A' c){b}(a:Za)(f:Rd A' b e w) :
  Calls prog 198 #[Zp c.R,.string a] w (eR [c.S] A' b w (iE b a.data.toList e) .bool):=by
 have:=Lb a f;rw[d.1,d.2.1]at this;exact this
abbrev lX:aW->Zv:=λa=>.agg #[Zs a.t,U a.y,cW a.O]
def oq(c:Za)(a:Zb×Nat)(d:Ty):PX τ aW:=aP (lift (lT c)) λb=>dA ⟨a.1,a.2,.arr d b.1 b.2⟩
def sT(c:Za)(a:Zb×Nat)(b:Ty)(d:Bool):PX τ aW:=if d then oq c a b else dA ⟨a.1,a.2,b⟩
def sS(a:Za)(b:Zb×Nat)(c:Ty)(d:Bool):PX τ aW:=if d then oq a b c else aP (lift (iE a [60])) (sT a b c)
def rK(a:Za)(c:Ty)(b:Zb×Nat):PX τ aW:=aP (lift (iE a [91])) (sS a b c)
def rJ(a:Za)(b:dU τ)(d:Ty)(e:Bool):PX τ aW:=if e then aP (name a b) λc=>dA ⟨c.1,c.2,.opt d⟩else aP (name a b) (rK a d)
def sR(a:Za)(b:dU τ)(c:Ty):PX τ aW:=aP (lift (eu a [42])) (rJ a b c)
def pb(a:Za)(b:dU τ)(e:Bool):PX τ aW:=
 if e then aP (name a b) λc=>aP (lift (pt a)) λd=>dA ⟨c.1,c.2,.str d.1 d.2⟩else aP (lift (pK a)) (sR a b)
def qp(a:Za)(b:dU τ)(e:Bool):PX τ aW:=
 if e then aP (name a b) λc=>aP (lift (lT a)) λd=>dA ⟨c.1,c.2,.opaq d.1 d.2⟩else aP (lift (eu a Ju)) (pb a b)
def eY(a:Za)(b:dU τ):PX τ aW:=aP (lift (eu a Jy)) (qp a b)
def sX{a d}(e:Rd c a n w)(j:an d w g)(o:Rd (c.a1 w.heap.size) a l g)(f h i:Zv) :
  an d w (((g.setCell ⟨w.heap.size,0,none⟩ f).setCell ⟨w.heap.size,1,none⟩ h).setCell ⟨w.heap.size,2,none⟩ i)/\Rd c a l (((g.setCell ⟨w.heap.size,0,none⟩ f).setCell ⟨w.heap.size,1,none⟩ h).setCell ⟨w.heap.size,2,none⟩ i):=by
 refine⟨((j.b4 (Y4 _) _).b4 (Y4 _) _).b4 (Y4 _) _,tZ (b:=w.heap.size) e.az ?_⟩;have q:=λ{g:Zw} (k:Rd (c.a1 w.heap.size) a l g) (m:Nat) (v:Zv)=>vH (A':=c.a1 w.heap.size) e ⟨rfl,rfl,rfl,rfl⟩ k (p:=⟨w.heap.size,m,none⟩) (Y4 _) (by simp[Ad.a1]) v;grind
def fq{c d a:Zv}{e}(g:w.heap[b]? = some (.cells #[c,d,a] e)) :
  w.cell? (Zd b 0)=some c/\w.cell? (Zd b 1)=some d/\w.cell? (Zd b 2)=some a/\∀f,w.frozen? ⟨b,f,none⟩=false:=by
 simp_all[World.cell?,World.frozen?]
theorem sh{a:dU τ}{h:Za}{d:τ}(e:lj a c h)(l:b ∉ a.M)(f:a.I d g)(i j k:Zv) :
  a.I d (((g.setCell ⟨b,0,none⟩ i).setCell ⟨b,1,none⟩ j).setCell ⟨b,2,none⟩ k):=
 e.c7 f ((((ao [b] g).aH (p:=⟨b,0,none⟩) Zq _).aH (p:=⟨b,1,none⟩) Zq _).aH (p:=⟨b,2,none⟩) Zq _) Zu
def GK{C:dU τ}{j:Za}{t:τ}(l:lj C c j)(p:Rd c j e w)(g6:C.I t w)(g5:bW c.X C.bs w) :
  Calls prog 191 #[Zp c.R,.func (.func C.f) C.e8 C.e7] w (mp (c.S::C.M) c j w (eY j C t e) lX C.I):=by
 have c7:w.heap.size ∉ C.M:=λg7=>by have:=p.a3 _ (l.g1 _ g7);omega
 have c9:=BX l p g6 g5 (.cells #[.string ⟨#[]⟩,U 0,.nilIface] 242);go_in;go_wp21;refine(rx (fX c _) _ c9.r).mono ?_;rintro D h4 ⟨e7,⟨f8,h2,d7,rfl,g8⟩|⟨E,d7,b,m,rfl,n⟩⟩;rotate_left
 .exact aE (hl (c9.k.u (e7.ak Zq)) c9.k (bR (cZ d7)) m n)
 have a2:=c9.b3 l p e7 g8;have c3:af (eY j C t e=qp j C f8 t h2):=bf (bF d7);cases f8 with
 |true=>
  go_wp21;refine(Ax l a2.r a2.i a2.h).mono ?_;rintro D H ⟨c1,⟨f,f3,e3,b2,rfl,d5,b1⟩|⟨E,b2,b,m,rfl,n⟩⟩;rotate_left
  .exact aE (hl (a2.k.u c1) a2.k (c3.w.trans (bR b2)) m n)
  have A:=a2.he l p c1 d5 b1;have a8:af (eY j C t e=aP (lift (lT j)) (λh=>dA ⟨f.1,f.2,.opaq h.1 h.2⟩) f3 e3):=c3.w.trans (bf b2);dsimp only[il];go_wp21;have a3:=A.ah l (((Below.refl H.heap.size H).alloc (Y4 _) (.cells #[.string ⟨f.1.toArray⟩,U f.2] 160)).drew);have d6:=aQ (w:=H) (o:=.cells #[.string ⟨f.1.toArray⟩,U f.2] 160) rfl;obtain⟨a5,a6,_⟩:=om d6;have d3:=aa a5;have d4:=aa a6;have u:=aa a3;have e6:c.S<H.heap.size:=by have:=p.lt.2.1;have:=A.k.aD;omega
  have f2:w.heap.size<H.heap.size:=au A.d;have f0:¬w.heap.size=H.heap.size:=Zm;have f1:¬H.heap.size=w.heap.size:=Zm;have a7:=aa l;have a9:=aa p;go_region_held2 (λa0=>a0.cell? (Zd H.heap.size 0)=some (.string ⟨f.1.toArray⟩)/\a0.cell? (Zd H.heap.size 1)=some (U f.2)) (go_keep)
   (first|(go_at_call 247;refine(Ct (fX c _) u.w.r).mono ?_;rintro D F ⟨g,⟨h,d1,c8,rfl,q⟩|⟨E,c8,b,m,rfl,n⟩⟩;rotate_left;exact aE (hl (u.w.k.u (g.ak Zq)) u.w.k (a8.w.trans (bR (cZ c8))) m n);dsimp only[rD];have x:=u.w.b3 a7.w a9.w g q;obtain⟨N,O,P,c0⟩:=fq x.d;have e1:=g.ba (b:=H.heap.size) Zx d3.w;have e2:=g.ba (b:=H.heap.size) Zx d4.w;have B:=aa x;have Hx:=aa c8;clear x g c8 q))
  go_wp2;obtain⟨J,K⟩:=sX p B.w.k B.w.r (.string ⟨f.1.toArray⟩) (U f.2) (cW (.opaq h.1 h.2));refine bodyPost_ret (v:=.agg #[.string ⟨f.1.toArray⟩,U f.2,.iface 377 (.agg #[U h.1,.bool h.2])]) (by simp[results,results191,go_sem,N,O,P]) rfl (oQ (a:=⟨f.1,f.2,.opaq h.1 h.2⟩) (t:=f3) J (a8.w.trans (bf (bF Hx.w))) rfl K ?_)
  exact sh a7.w c7 B.w.i ..
 |false=>
  go_wp21;refine(rx (fX c _) _ a2.r).mono ?_;rintro D H ⟨c1,⟨f9,e3,b2,rfl,d5⟩|⟨E,b2,b,m,rfl,n⟩⟩;rotate_left
  .exact aE (hl (a2.k.u (c1.ak Zq)) a2.k (c3.w.trans (bR (cZ b2))) m n)
  have A:=a2.b3 l p c1 d5;have a8:af (eY j C t e=pb j C f9 t e3):=c3.w.trans (bf (bF b2));cases f9 with
  |true=>
   go_wp21;refine(Ax l A.r A.i A.h).mono ?_;rintro D F ⟨g,⟨f,f4,d1,b3,rfl,q,b1⟩|⟨E,b3,b,m,rfl,n⟩⟩;rotate_left
   .exact aE (hl (A.k.u g) A.k (a8.w.trans (bR b3)) m n)
   have a3:=A.he l p g q b1;dsimp only[il];have b7:af (eY j C t e=aP (lift (pt j)) (λh=>dA ⟨f.1,f.2,.str h.1 h.2⟩) f4 d1):=a8.w.trans (bf b3);go_wp21;have b5:=a3.ah l (((Below.refl F.heap.size F).alloc (Y4 _) (.cells #[.string ⟨f.1.toArray⟩,U f.2] 160)).drew);have d6:=aQ (w:=F) (o:=.cells #[.string ⟨f.1.toArray⟩,U f.2] 160) rfl;obtain⟨a5,a6,_⟩:=om d6;have d3:=aa a5;have d4:=aa a6;have u:=aa b5;have e6:c.S<F.heap.size:=by have:=p.lt.2.1;have:=a3.k.aD;omega
   have f2:w.heap.size<F.heap.size:=au a3.d;have f0:¬w.heap.size=F.heap.size:=Zm;have f1:¬F.heap.size=w.heap.size:=Zm;have a7:=aa l;have a9:=aa p;go_region_held2 (λa0=>a0.cell? (Zd F.heap.size 0)=some (.string ⟨f.1.toArray⟩)/\a0.cell? (Zd F.heap.size 1)=some (U f.2)) (go_keep)
    (first|(go_at_call 248;refine(IX (fX c _) u.w.r).mono ?_;rintro D f7 ⟨g,⟨h,g4,z,rfl,q⟩|⟨E,z,b,m,rfl,n⟩⟩;rotate_left;exact aE (hl (u.w.k.u (g.ak Zq)) u.w.k (b7.w.trans (bR (cZ z))) m n);dsimp only[rD];have L:=u.w.b3 a7.w a9.w g q;obtain⟨N,O,P,c0⟩:=fq L.d;have e1:=g.ba (b:=F.heap.size) Zg d3.w;have e2:=g.ba (b:=F.heap.size) Zg d4.w;have B:=aa L;have Hx:=aa z;clear L g z q))
   go_wp2;obtain⟨J,K⟩:=sX p B.w.k B.w.r (.string ⟨f.1.toArray⟩) (U f.2) (cW (.str h.1 h.2));refine bodyPost_ret (v:=.agg #[.string ⟨f.1.toArray⟩,U f.2,.iface 380 (.agg #[U h.1,.bool h.2])]) (by simp[results,results191,go_sem,N,O,P]) rfl (oQ (a:=⟨f.1,f.2,.str h.1 h.2⟩) (t:=f4) J (b7.w.trans (bf (bF Hx.w))) rfl K ?_)
   exact sh a7.w c7 B.w.i ..
  |false=>
   go_wp21;refine(adS (fX c _) A.r).mono ?_;rintro D F ⟨e8,⟨y,d1,b3,rfl,g9⟩|⟨E,b3,b,m,rfl,n⟩⟩;rotate_left
   .exact aE (hl (A.k.u (e8.ak Zq)) A.k (a8.w.trans (bR (cZ b3))) m n)
   have a3:=A.b3 l p e8 g9;have b7:af (eY j C t e=sR j C y t d1):=a8.w.trans (bf (bF b3));obtain⟨a1,a4,b9⟩:∃a1 a4,af (cW y=.iface a1 a4):=by cases y<;>exact⟨_,_,rfl⟩
   rw[b9.w];go_wp21;refine(rx (fX c _) _ a3.r).mono ?_;rintro D h5 ⟨e9,⟨g0,h3,d8,rfl,h0⟩|⟨E,d8,b,m,rfl,n⟩⟩;rotate_left
   .exact aE (hl (a3.k.u (e9.ak Zq)) a3.k (b7.w.trans (bR (cZ d8))) m n)
   have x:=a3.b3 l p e9 h0;have c4:af (eY j C t e=rJ j C y g0 t h3):=b7.w.trans (bf (bF d8));cases g0 with
   |true=>
    go_wp21;refine(Ax l x.r x.i x.h).mono ?_;rintro D s ⟨g,⟨f,G,e4,b4,rfl,q,b1⟩|⟨E,b4,b,m,rfl,n⟩⟩;rotate_left
    .exact aE (hl (x.k.u g) x.k (c4.w.trans (bR b4)) m n)
    have b6:=x.he l p g q b1;dsimp only[il];have c5:af (eY j C t e=dA ⟨f.1,f.2,.opt y⟩ G e4):=c4.w.trans (bf b4);obtain⟨N,O,P,c0⟩:=fq b6.d;have b0:=aa b6;go_wp2;obtain⟨J,K⟩:=sX p b0.w.k b0.w.r (.string ⟨f.1.toArray⟩) (U f.2) (.iface 385 (.agg #[.iface a1 a4]))
    refine bodyPost_ret (v:=.agg #[.string ⟨f.1.toArray⟩,U f.2,.iface 385 (.agg #[.iface a1 a4])]) (by simp[results,results191,go_sem,N,O,P]) rfl (oQ (a:=⟨f.1,f.2,.opt y⟩) (t:=G) J (c5.w.trans rfl) (by simp only[lX,cW,b9.w]) K ?_)
    exact sh l c7 b0.w.i ..
   |false=>
    go_wp21;refine(Ax l x.r x.i x.h).mono ?_;rintro D s ⟨g,⟨f,G,e4,b4,rfl,q,b1⟩|⟨E,b4,b,m,rfl,n⟩⟩;rotate_left
    .exact aE (hl (x.k.u g) x.k (c4.w.trans (bR b4)) m n)
    have b6:=x.he l p g q b1;dsimp only[il];have c5:af (eY j C t e=rK j y f G e4):=c4.w.trans (bf b4);have e6:c.S<s.heap.size:=by have:=p.lt.2.1;have:=b6.k.aD;omega
    have f2:w.heap.size<s.heap.size:=au b6.d;have f0:¬w.heap.size=s.heap.size:=Zm;have f1:¬s.heap.size=w.heap.size:=Zm;have d0:=b6.ah l ((Below.refl s.heap.size s).alloc (Y4 _) (.cells #[.string ⟨f.1.toArray⟩,U f.2] 160));obtain⟨a5,a6,_⟩:=om (aQ (w:=s) (o:=.cells #[.string ⟨f.1.toArray⟩,U f.2] 160) rfl);go_wp21;refine(Bh (fX c _) _ d0.r).mono ?_;rintro D f5 ⟨g,⟨g1,g3,d9,rfl,q⟩|⟨E,d9,b,m,rfl,n⟩⟩;rotate_left
    .exact aE (hl (d0.k.u (g.ak Zq)) d0.k (c5.w.trans (bR (cZ d9))) m n)
    have c2:=d0.b3 l p g q;have a5:=g.ba (b:=s.heap.size) Zg a5;have a6:=g.ba (b:=s.heap.size) Zg a6;have d2:af (eY j C t e=sS j f y g1 G g3):=c5.w.trans (bf (bF d9));cases g1 with
    |true=>
     have b8:af (eY j C t e=aP (lift (lT j)) (λh=>dA ⟨f.1,f.2,.arr y h.1 h.2⟩) G g3):=d2.w;go_wp21;have b5:=c2.ah l ((Below.refl f5.heap.size f5).drew);have u:=aa b5;have a7:=aa l;have a9:=aa p;go_region_held2 (λa0=>a0.cell? (Zd s.heap.size 0)=some (.string ⟨f.1.toArray⟩)/\a0.cell? (Zd s.heap.size 1)=some (U f.2)) (go_keep)
      (first|(go_at_call 247;refine(Ct (fX c _) u.w.r).mono ?_;rintro D f7 ⟨g,⟨h,g4,z,rfl,q⟩|⟨E,z,b,m,rfl,n⟩⟩;rotate_left;exact aE (hl (u.w.k.u (g.ak Zq)) u.w.k (b8.w.trans (bR (cZ z))) m n);dsimp only[rD];have L:=u.w.b3 a7.w a9.w g q;obtain⟨N,O,P,c0⟩:=fq L.d;have e1:=g.ba (b:=s.heap.size) Zg a5;have e2:=g.ba (b:=s.heap.size) Zg a6;have B:=aa L;have Hx:=aa z;clear L g z q))
     go_wp2;obtain⟨J,K⟩:=sX p B.w.k B.w.r (.string ⟨f.1.toArray⟩) (U f.2) (.iface 382 (.agg #[.iface a1 a4,U h.1,.bool h.2]))
     refine bodyPost_ret (v:=.agg #[.string ⟨f.1.toArray⟩,U f.2,.iface 382 (.agg #[.iface a1 a4,U h.1,.bool h.2])]) (by simp[results,results191,go_sem,N,O,P]) rfl (oQ (a:=⟨f.1,f.2,.arr y h.1 h.2⟩) (t:=G) J (b8.w.trans (bf (bF Hx.w))) (by simp only[lX,cW,b9.w]) K ?_)
     grind [sh,af.w,lK.i]
    |false=>
     go_wp21;refine(Bh (fX c _) _ c2.r).mono ?_;rintro D f6 ⟨g,⟨g2,e5,e0,rfl,q⟩|⟨E,e0,b,m,rfl,n⟩⟩;rotate_left
     .exact aE (hl (c2.k.u (g.ak Zq)) c2.k (d2.w.trans (bR (cZ e0))) m n)
     have b5:=c2.b3 l p g q;have a5:=g.ba (b:=s.heap.size) Zg a5;have a6:=g.ba (b:=s.heap.size) Zg a6;have b8:af (eY j C t e=sT j f y g2 G e5):=d2.w.trans (bf (bF e0));cases g2 with
     |true=>
      have c6:af (eY j C t e=aP (lift (lT j)) (λh=>dA ⟨f.1,f.2,.arr y h.1 h.2⟩) G e5):=b8.w;go_wp21;have h1:=b5.ah l ((Below.refl f6.heap.size f6).drew);have u:=aa h1;have a7:=aa l;have a9:=aa p;go_region_held2 (λa0=>a0.cell? (Zd s.heap.size 0)=some (.string ⟨f.1.toArray⟩)/\a0.cell? (Zd s.heap.size 1)=some (U f.2)) (go_keep)
       (first|(go_at_call 247;refine(Ct (fX c _) u.w.r).mono ?_;rintro D f7 ⟨g,⟨h,g4,z,rfl,q⟩|⟨E,z,b,m,rfl,n⟩⟩;rotate_left;exact aE (hl (u.w.k.u (g.ak Zq)) u.w.k (c6.w.trans (bR (cZ z))) m n);dsimp only[rD];have L:=u.w.b3 a7.w a9.w g q;obtain⟨N,O,P,c0⟩:=fq L.d;have e1:=g.ba (b:=s.heap.size) Zg a5;have e2:=g.ba (b:=s.heap.size) Zg a6;have B:=aa L;have Hx:=aa z;clear L g z q))
      go_wp2;obtain⟨J,K⟩:=sX p B.w.k B.w.r (.string ⟨f.1.toArray⟩) (U f.2) (.iface 382 (.agg #[.iface a1 a4,U h.1,.bool h.2]))
      refine bodyPost_ret (v:=.agg #[.string ⟨f.1.toArray⟩,U f.2,.iface 382 (.agg #[.iface a1 a4,U h.1,.bool h.2])]) (by simp[results,results191,go_sem,N,O,P]) rfl (oQ (a:=⟨f.1,f.2,.arr y h.1 h.2⟩) (t:=G) J (c6.w.trans (bf (bF Hx.w))) (by simp only[lX,cW,b9.w]) K ?_)
      grind [sh,af.w,lK.i]
     |false=>
      have c6:af (eY j C t e=dA ⟨f.1,f.2,y⟩ G e5):=b8.w;obtain⟨N,O,P,c0⟩:=fq b5.d;have b0:=aa b5;go_wp2;obtain⟨J,K⟩:=sX p b0.w.k b0.w.r (.string ⟨f.1.toArray⟩) (U f.2) (.iface a1 a4)
      refine bodyPost_ret (v:=.agg #[.string ⟨f.1.toArray⟩,U f.2,.iface a1 a4]) (by simp[results,results191,go_sem,N,O,P]) rfl (oQ (a:=⟨f.1,f.2,y⟩) (t:=G) J (c6.w.trans rfl) (by simp only[lX,b9.w]) K ?_)
      exact sh l c7 b0.w.i ..
end
def iz(a:Ad):dU Unit where
 f:=186
 e8:=#[Zp a.R]
 e7:=#[]
 M:=[a.N]
 bs:=[]
 I:=λ_ _=>True
 bb:=λb=>lift (iI b)
def QM(args:Array Zv)(a:Zw):(callFunc 186 args).run prog a=.ok (.enter 186 args) a:=Zk
def OX(args:Array Zv)(a:Zw):(callFunc 251 args).run prog a=.ok (.enter 251 args) a:=Zk
def GB{a c s p}(d:Rd a c s p):lj (iz a) a c where
 d1:=QM
 c7:=λ_ _ _=>trivial
 hm:=by simp[iz];exact d.ca.2.2.2.1
 g1:=by simp[iz];exact d.az.2.2.1
 call:=by
  intro h q o i g e _ l _ _;have:=QL g l;rw[e.1,e.2.2.1]at this;refine Calls.mono (R:=eR [a.N] h c i (iI g q) tJ) this ?_;rintro t u ⟨f,⟨j,r,b,rfl,m⟩|⟨k,b,n⟩⟩
  .exact⟨f,Y8 ⟨j,o,r,bF b,rfl,m,trivial⟩⟩
  .exact⟨f,Ya ⟨k,cZ b,n⟩⟩
def bA(a b:Nat):dU (Zc) where
 f:=251
 e8:=#[]
 e7:=#[Zp b]
 M:=[a]
 bs:=[(b,.cells #[.map (some a)] 103)]
 I:=eC a
 bb:=λc=>oI (oY c)
def Cz{h u c bx}(a:dK h c):lj (bA c bx) h u where
 d1:=OX
 c7:=λe b f=>e.ac b (λa=>f _ a (by simp[bA]))
 hm:=by simp[bA];exact λi=>a.2.2.1 i.symm
 g1:=by simp[bA];exact a.1
 call:=by
  intro j w x k v d m q e p;have n:k.cell? (Zd bx 0)=some (.map (some c)):=by
   have:=(p (bx,.cells #[.map (some c)] 103) (by simp[bA])).1;grind [World.cell?]
  refine Calls.mono (OW v e n) ?_;have o:dK j c:=⟨m _ a.1,by rw[d.1];exact a.2.1,by rw[d.2.1];exact a.2.2.1,by rw[d.2.2.1];exact a.2.2.2.1,by rw[d.2.2.2];exact a.2.2.2.2⟩;rintro i z ⟨b,⟨t,g,rfl,r⟩|⟨l,g,s⟩⟩
  .obtain⟨_,y,_,f⟩:=id e;exact⟨b,Y8 ⟨(),t,w,wy g,rfl,q.j9 b o f,r⟩⟩
  .exact⟨b,Ya ⟨l,wx g,s⟩⟩
section
variable {a:Ad}{f:Mar.ay}{w:Zw}{c:Type}{b:St}
def kR(d:PX Unit c):PM c:=λb=>match d () b with
 |.ok (a,_,e)=>.ok (a,e)
 |.error f=>.error f
def Cn{d:PX Unit c}{e:St}{a:c}{u:Unit}(f:d () b=.ok (a,u,e)):kR d b=.ok (a,e):=by simp only[kR,f]
theorem Cm{a:PX Unit c}(d:a () b=.error f):kR a b=.error f:=by simp only[kR,d]
def tq:Ad:=⟨0,0,0,0,[]⟩
def qq(a:Za):PM aW:=kR (eY a (iz tq))
def iK(a:Za):PM (Zb×Nat):=kR (name a (iz tq))
def it(j:List Nat)(a:Ad)(k:Za)(w:Zw)(h:Except Mar.ay (aC×St))(g:Ending)(b:Zw):Prop:=
 an j w b/\((∃e i c d,h=.ok (e,i)/\g=.returned (Zp c)/\Rd a k i b/\fB d c e/\bW a.X d b)\/(∃f,h=.error f/\fm w f.no f.y g b))
def eI{d M' l w1 c}{e:Except Mar.ay (aC×St)}{b:Nat}
  (i:an d w c) (j:an M' w w1) (k:e=.error f) (g:w1.heap.size<=b) (h:c.heap[b]? = some (.cells #[U f.no,U f.y] 179)) :
  it d a l w e (.panicked [{ v:=.iface 143 (Zp b),recovered:=false }]) c:=
 ⟨i,Ya ⟨f,k,b,Yz j.aD g,rfl,h⟩⟩
def QB{d}(e:Rd a d b w) :
  Calls prog 191 #[Zp a.R,.func (.func 186) #[Zp a.R] #[]] w (eR [a.S,a.N] a d w (qq d b) lX):=by
 refine Calls.mono (GK (C:=iz a) (t:=()) (GB e) e trivial (λo j=>by simp[iz]at j)) ?_;rintro n p ⟨g,⟨i,h,m,c,rfl,k,_⟩|⟨f,c,l⟩⟩
 .exact⟨g,Y8 ⟨i,m,Cn (u:=h) c,rfl,k⟩⟩
 .exact⟨g,Ya ⟨f,Cm c,l⟩⟩
def yg{d}(e:Rd a d b w) :
  Calls prog 185 #[Zp a.R,.func (.func 186) #[Zp a.R] #[]] w (eR [a.S,a.N] a d w (iK d b) il):=by
 refine Calls.mono (DG (C:=iz a) (t:=()) (GB e) e trivial (λo j=>by simp[iz]at j)) ?_;rintro n p ⟨g,⟨i,h,m,c,rfl,k,_⟩|⟨f,c,l⟩⟩
 .exact⟨g,Y8 ⟨i,m,Cn (u:=h) c,rfl,k⟩⟩
 .exact⟨g,Ya ⟨f,Cm c,l⟩⟩
def kB(a:Za)(b:Nat):PM aC:=aM (lB b) λ_=>aM (qq a) λc=>aM (cI a [59]) λ_=>ret (.typedef c)
def adU{s}(l:Nat)(B:Rd a s b w) :
  Calls prog 120 #[Zp a.R,U l] w (it [a.R,a.S,a.N] a s w (kB s l b)):=by
 have J:=je;go_in;go_wp21;refine(AC l B).mono ?_;rintro x O ⟨y,⟨M,a1,h,rfl,D⟩|⟨f,h,v,e,rfl,g⟩⟩;rotate_left
 .exact aE (eI (y.ak Zq) (ao [] _) (bO h) e g)
 have m:=y.ak (M':=[a.R,a.S,a.N]) Zq;go_wp21;refine(QB D).mono ?_;rintro x j ⟨z,⟨c,a2,k,rfl,q⟩|⟨f,k,v,e,rfl,g⟩⟩;rotate_left
 .exact aE (eI (m.u (z.ak Zq)) m ((aK h).trans (bO k)) e g)
 have n:=m.u (z.ak (M':=[a.R,a.S,a.N]) Zq);obtain⟨d,i,u⟩:∃d i,af (cW c.O=.iface d i):=by cases c.O<;>exact⟨_,_,rfl⟩
 dsimp only[lX];rw[u.w];have C:=(Below.refl j.heap.size j).alloc (Y4 _) (.cells #[Zs c.t,U c.y,.iface d i] 244)
 have A:=aQ (w:=j) (o:=.cells #[Zs c.t,U c.y,.iface d i] 244) rfl
 have E:=q.ah C;have I:=q.a3;go_wp21;refine(vX _ E).mono ?_;rintro x P ⟨p,⟨a0,G,r,rfl,F⟩|⟨f,r,v,e,rfl,g⟩⟩;rotate_left
 .exact aE (eI ((n.H _).u (p.ak Zq)) (n.H _) ((aK h).trans ((aK k).trans (bO r))) e g)
 have H:=aa ((p.L _ (au A) (by have:=q.lt.2.1;grind)).trans A);go_wp2;go_ret;refine⟨(n.H _).u (p.ak Zq),Y8 ⟨.typedef c,G,j.heap.size,[(j.heap.size,.cells #[Zs c.t,U c.y,.iface d i] 244)],(aK h).trans ((aK k).trans (aK r)),rfl,F,?_,?_⟩⟩
 .show _∈_;simp only[mJ,u.w,Yc]
 .intro L K;grind [af.w]
end
def ko(a:Za)(c:Nat):PM aC:=aM (lA c) λ_=>aM (iK a) λb=>aM (cI a [61]) λ_=>
 aM (jG a (dV (-2147483648) 4294967295)) λd=>aM (cI a [59]) λ_=>ret (.const b.1 b.2 d.1)
def Qo{a D P}(q:Nat){w}(a0:Rd a D P w) :
  Calls prog 119 #[Zp a.R,U q] w (it [a.R,a.S,a.N] a D w (ko D q P)):=by
 have b7:=je;go_in;go_wp21;refine(JS q a0).mono ?_;rintro h c3 ⟨G,⟨c2,d0,f,rfl,a5⟩|⟨n,f,m,c,rfl,d⟩⟩;rotate_left
 .exact aE (eI (G.ak Zq) (ao [] _) (bO f) c d)
 have r:=G.ak (M':=[a.R,a.S,a.N]) Zq;go_wp21;refine(yg a5).mono ?_;rintro h e ⟨H,⟨b,d1,g,rfl,j⟩|⟨n,g,m,c,rfl,d⟩⟩;rotate_left
 .exact aE (eI (r.u (H.ak Zq)) r ((aK f).trans (bO g)) c d)
 have F:=r.u (H.ak (M':=[a.R,a.S,a.N]) Zq);dsimp only[il];have b4:=j.a3;have b6:=j.lt.2.1;have a6:=j.ae (.cells #[.string ⟨b.1.toArray⟩,U b.2,U 0] 343);have J:=aQ (w:=e) (o:=.cells #[.string ⟨b.1.toArray⟩,U b.2,U 0] 343) rfl;have s:=F.H (.cells #[.string ⟨b.1.toArray⟩,U b.2,U 0] 343);have B:e.heap.size ∉ [a.S]:=Zg;go_wp21;refine(gS (fX a _) _ a6).mono ?_;rintro h c4 ⟨y,⟨c8,d2,k,rfl,I⟩|⟨n,k,m,c,rfl,d⟩⟩;rotate_left
 .exact aE (eI (s.u (y.ak Zq)) s ((aK f).trans ((aK g).trans (bO k))) c d)
 have K:=(y.L _ (au J) B).trans J;have a1:=s.u (y.ak (M':=[a.R,a.S,a.N]) Zq);go_wp21;refine(vl _ _ _).mono ?_;rintro h c5 ⟨v,rfl,x,a4⟩;have a3:=a4 (a.a1 e.heap.size).X I.a3;have a7:=I.ah x;have L:=(x.block _ (au K)).trans K;have t:=a1.u (bT _ x);go_wp21;refine(EY (fX a _) a7 a3).mono ?_;rintro h c6 ⟨z,⟨l,d3,p,rfl,a8⟩|⟨n,p,m,c,rfl,d⟩⟩;rotate_left
 .exact aE (eI (t.u (z.ak Zq)) t ((aK f).trans ((aK g).trans ((aK k).trans (bO p)))) c d)
 have M:=(z.L _ (au L) B).trans L;have a2:=t.u (z.ak (M':=[a.R,a.S,a.N]) Zq);obtain⟨b9,c0,c1,b5⟩:=fq M;dsimp only[yr];have b1:=bv (i:=2) M (U l.1);have a9:=vH (A':=a.a1 e.heap.size) j ⟨rfl,rfl,rfl,rfl⟩ a8 (p:=⟨e.heap.size,2,none⟩) (Y4 _) (by simp[Ad.a1]) (U l.1);have u:=a2.b4 (p:=⟨e.heap.size,2,none⟩) (Nat.le_of_lt_succ (Nat.lt_succ_of_le F.aD)) (U l.1);have E:=aa b1;go_wp21;refine(gS (fX a _) _ a9).mono ?_;rintro h c7 ⟨A,⟨c9,b2,C,rfl,b0⟩|⟨n,C,m,c,rfl,d⟩⟩;rotate_left
 .exact aE (eI (u.u (A.ak Zq)) u ((aK f).trans ((aK g).trans ((aK k).trans ((aK p).trans (bO C))))) c d)
 have b3:=aa ((A.L _ (au E.w) B).trans E.w);go_wp2;go_ret;refine⟨u.u (A.ak Zq),Y8 ⟨.const b.1 b.2 l.1,b2,e.heap.size,[(e.heap.size,.cells #[.string ⟨b.1.toArray⟩,U b.2,U l.1] 343)],(aK f).trans ((aK g).trans ((aK k).trans ((aK p).trans (aK C)))),rfl,tZ j.az b0,?_,?_⟩⟩
 .show _∈_;simp
 .intro O b8;grind [af.w]
section
variable {c:Ad}{e:TypeId}{b:Zw}{j:St}{g:Type}
def GL{a:dU g}{d:Ad}(h:fW d c){e:Za}{i:g}(l:lj a d e)(k:Rd d e j b)(n:a.I i b)(m:bW d.X a.bs b) :
  Calls prog 191 #[Zp c.R,.func (.func a.f) a.e8 a.e7] b (mp (c.S::a.M) d e b (eY e a i j) lX a.I):=by
 have:=GK l k n m;rw[h.1,h.2.1]at this;exact this
def qk(b:Za)(a:dU g)(c:Bool):PX g aW:=if c then dA ⟨[],0,.void⟩else eY b a
def km(a:Za)(b:dU g):PX g aW:=aP (aP (lift (eu a Jt)) (qk a b)) λc=>aP (lift (cI a [59])) λ_=>dA c
def abr{a:Nat}{m o n c f d:Zv}{g}(h:b.heap[a]? = some (.cells #[m,o,n] e g)) :
  (((b.setCell ⟨a,0,none⟩ c).setCell ⟨a,1,none⟩ f).setCell ⟨a,2,none⟩ d).heap[a]? = some (.cells #[c,f,d] e g):=by
 have j:=bv (i:=0) h c;have k:=bv (i:=1) j f;have l:=bv (i:=2) k d;exact l
def lK.o3{m:dU g}{a:Za}{f:Zw}{w x y:Zv}{q:g}{B:St}(l:lK m c a b (.cells #[w,x,y] e) q j f)(o:lj m c a)(n:Rd c a B b)(s t u:Zv) :
  lK m c a b (.cells #[s,t,u] e) q j (((f.setCell ⟨b.heap.size,0,none⟩ s).setCell ⟨b.heap.size,1,none⟩ t).setCell ⟨b.heap.size,2,none⟩ u) where
 k:=((l.k.b4 (Y4 _) _).b4 (Y4 _) _).b4 (Y4 _) _
 r:=by
  have C:=λ{f:Zw} (A:Rd (c.a1 b.heap.size) a j f) (i:Nat) (v:Zv)=>vH (A':=c.a1 b.heap.size) n ⟨rfl,rfl,rfl,rfl⟩ A (p:=⟨b.heap.size,i,none⟩) (Y4 _) (by simp[Ad.a1]) v;grind [r]
 i:=sh o (λz=>by have:=n.a3 _ (o.g1 _ z);omega) l.i ..
 h:=l.h.ac ((((ao [b.heap.size] f).aH (p:=⟨b.heap.size,0,none⟩) Zq _).aH (p:=⟨b.heap.size,1,none⟩) Zq _).aH (p:=⟨b.heap.size,2,none⟩) Zq _) (by simp[Ad.a1])
 d:=abr l.d
def Pe{d:dU g}{m:Za}{t:g}(A:lj d c m)(z:Rd c m j b)(c0:d.I t b)(b9:bW c.X d.bs b) :
  Calls prog 200 #[Zp c.R,.func (.func d.f) d.e8 d.e7] b (mp (c.S::d.M) c m b (km m d t j) lX d.I):=by
 have b3:b.heap.size ∉ d.M:=λc2=>by have:=z.a3 _ (A.g1 _ c2);omega
 have d1:=z.lt.2.1;have x:=BX A z c0 b9 (.cells #[.string ⟨#[]⟩,U 0,.nilIface] 242);have o:=A.a1 b.heap.size;have N:=BX o x.r x.i x.h (.cells #[.string ⟨#[]⟩,U 0,.iface 444 (.agg #[])] 242)
 have h:=x.k;have K:(b.alloc (.cells #[.string ⟨#[]⟩,U 0,.nilIface] 242)).heap[b.heap.size]? = _:=x.d;have s:=x.r;go_in;go_wp21;have b2:b.heap.size ∉ c.S::d.M:=by
  grind
 have J:fW ((c.a1 b.heap.size).a1 (b.alloc (.cells #[.string ⟨#[]⟩,U 0,.nilIface] 242)).heap.size) c:=⟨rfl,rfl,rfl,rfl⟩;refine(rx J _ N.r).mono ?_;rintro P d2 ⟨b0,⟨c7,c8,C,rfl,c3⟩|⟨a0,C,O,p,rfl,q⟩⟩;rotate_left
 .exact aE (hl ((h.u N.k).u (b0.ak Zq)) (h.u N.k) (bR (bR (cZ C))) p q)
 have l:=N.b3 o s b0 c3;have L:(b.alloc (.cells #[.string ⟨#[]⟩,U 0,.nilIface] 242)).heap.size=b.heap.size+1:=Zq;cases c7 with
 |true=>
  have y:af (aP (lift (eu m Jt)) (qk m d) t j=dA ⟨[],0,.void⟩ t c8):=bf (bF C);go_wp21;refine(gS J _ l.r).mono ?_;rintro P c5 ⟨B,⟨c6,c9,u,rfl,a4⟩|⟨a0,u,O,p,rfl,q⟩⟩;rotate_left
  .exact aE (hl ((h.u l.k).u (B.ak Zq)) (h.u l.k) ((bf (y.w.trans rfl)).trans (bR (cZ u))) p q)
  have w:=l.b3 o s B a4;have a3:=(w.k.L _ (au K) b2).trans K;obtain⟨a6,a7,a8,b8⟩:=fq a3;obtain⟨D,E,F,_⟩:=fq w.d;rw[L]at D E F;have n:=aa w;go_wp2;obtain⟨a1,a2⟩:=sX z (h.u n.w.k) (tZ s.az n.w.r) (.string ⟨#[]⟩) (U 0) (.iface 444 (.agg #[]))
  refine bodyPost_ret (v:=.agg #[.string ⟨#[]⟩,U 0,.iface 444 (.agg #[])]) (by simp[results,results200,go_sem,a6,a7,a8]) rfl (oQ (a:=⟨[],0,.void⟩) (t:=t) a1 ((bf (y.w.trans rfl)).trans (bf (bF u))) (rfl) a2 ?_)
  exact sh A b3 n.w.i ..
 |false=>
  go_wp21;refine(GL J (o.a1 _) l.r l.i l.h).mono ?_;rintro P d3 ⟨b1,⟨f,b6,d0,a5,rfl,c4,c1⟩|⟨a0,a5,O,p,rfl,q⟩⟩;rotate_left
  .exact aE (hl ((h.u l.k).u b1) (h.u l.k) (bR ((bf (bF C)).trans a5)) p q)
  have y:af (aP (lift (eu m Jt)) (qk m d) t j=.ok (f,b6,d0)):=(bf (bF C)).trans a5;have b4:=l.he o s b1 c4 c1;obtain⟨e,G,a9⟩:∃e G,af (cW f.O=.iface e G):=by cases f.O<;>exact⟨_,_,rfl⟩
  have b5:=b4.o3 o s (Zs f.t) (U f.y) (.iface e G)
  obtain⟨D,E,F,b7⟩:=fq b4.d;rw[L]at D E F b7;rw[L]at b5;have H:=aa b5;dsimp only[lX];rw[a9.w];go_wp21;refine(gS J _ H.w.r).mono ?_;rintro P c5 ⟨B,⟨c6,c9,u,rfl,a4⟩|⟨a0,u,O,p,rfl,q⟩⟩;rotate_left
  .exact aE (hl ((h.u H.w.k).u (B.ak Zq)) (h.u H.w.k) ((bf y.w).trans (bR (cZ u))) p q)
  have w:=H.w.b3 o s B a4;have a3:=(w.k.L _ (au K) b2).trans K;obtain⟨a6,a7,a8,b8⟩:=fq a3;obtain⟨D,E,F,_⟩:=fq w.d;rw[L]at D E F;have n:=aa w;go_wp2;obtain⟨a1,a2⟩:=sX z (h.u n.w.k) (tZ s.az n.w.r) (Zs f.t) (U f.y) (.iface e G)
  refine bodyPost_ret (v:=.agg #[Zs f.t,U f.y,.iface e G]) (by simp[results,results200,go_sem,a6,a7,a8]) rfl (oQ (a:=f) (t:=b6) a1 ((bf y.w).trans (bf (bF u))) (by simp only[lX,a9.w]) a2 ?_)
  exact sh A b3 n.w.i ..
end
section
variable {a:Nat}{c:Option aC}{w:Zw}{e:Type}
def abv{P:Program}{T kt et:TypeId}{d}(t:P.underlying T=some (.map kt et))(l:P.underlying kt=some d){s}(m:IsKey d (.string s)){c g}
  (k:w.heap[a]? = some (.map c g)) (p:∀f∈c.toList,IsKey d f.key) (u:∃f∈c.toList,f.key=.string s) (v:Zv) :
  ∃(e:Nat) (b:MapEntry),c.toList[e]? = some b/\b.key=.string s/\
   (Instr.mapUpdate T (.map (some a)) (.string s) v).run P w=.ok () (eG w a (.map (c.modify e λb=>{ b with key:=.string s,val:=v }) g)):=by
 have o:=λn=>MapKept.run_checkKey (w:=w) l m n 9999;rcases findNow_spec m c.toList 0 p with⟨h,i⟩|⟨e,b,h,i,j⟩
 .grind
 .refine⟨e,b,i,j,?_⟩;have q:c[e]? = some b:=Zu;have r:Instr.keyThatStays (.string s) (.string s)=pure (.string s):=by
   unfold Instr.keyThatStays;rw[Y9 (by show (s==s)=true;simp_all[bytes_beq])]
  simp[Instr.mapUpdate,Instr.findKey,run_underlying t,run_underlying l,MapKept.run_getObj_map k,o,h,q,j,r,MapKept.run_setObj_map _ k,Result.andThen]
def ep(d:List (Zb×Option aC))(c:Zb)(b:aC):List (Zb×Option aC):=d.map λa=>if a.1==c then (a.1,some b)else a
def Lf(a:List (Zb×Option aC))(c:Zb)(b:aC):(ep a c b).map (·.1)=a.map (·.1):=by
 grind [ep,List.map_congr_left]
def Dv{d:List (Zb×e)}{b:Zb}{c:e}(f:aO d b=some c):∃a∈d,a.1=b/\a.2=c:=by
 unfold aO at f;cases g:d.find? (λa=>a.1==b)<;>grind
def wl{a:List e}(d:a.Nodup)(b c:Nat)(g:b<a.length)(h:c<a.length)(f:a[b]=a[c]):b=c:=by
 have i:=List.pairwise_iff_getElem.1 d;grind
theorem tR{o p:Zo}{v}(h:∀F∈o,F∈p)(e:mn o v c):mn p v c:=by
 have y:∀k t,vp o k t->vp p k t:=λk t C=>h _ C;have a:∀s v u w,hn o s v u w->hn p s v u w:=by
  intro s v u w a;rcases a with a|⟨B,z,A,b,d,f,g⟩
  .exact Y8 a
  .exact Ya ⟨B,z,A,b,d,h _ f,g⟩
 cases c with
 |none=>exact e
 |some x=>
  obtain⟨k,D,j⟩:=e;refine⟨k,D,?_⟩;cases x with
  |const q n v=>exact y _ _ j
  |typedef x=>exact h _ j
  |enum q n E=>obtain⟨i,G,b,d,f,g⟩:=j;exact⟨i,G,h _ b,d,a _ _ _ _ f,λm e l=>y _ _ (g m e l)⟩
  |struct q n E=>obtain⟨i,b,d⟩:=j;exact⟨i,h _ b,a _ _ _ _ d⟩
  |union q n J H=>obtain⟨i,r,b,d,f,g⟩:=j;exact⟨i,r,h _ b,d,a _ _ _ _ f,λm e l=>a _ _ _ _ (g m e l)⟩
  |prog q n K I=>obtain⟨i,r,b,d,f,g⟩:=j;exact⟨i,r,h _ b,d,a _ _ _ _ f,λm e l=>a _ _ _ _ (g m e l)⟩
theorem hZ.a5{l e}(A:hZ l a e w)(O:a∈l){j:Zb}(J:aO e j=some c)
  {d b bs'} (D:fB bs' b d) (E:bW l bs' w) :
  ∃v,(Instr.mapUpdate 148 (.map (some a)) (Zs j) (.iface (dI d) (Zp b))).run prog w=.ok () (eG w a v)/\hZ l a (ep e j d) (eG w a v):=by
 obtain⟨p,y,k,B,C,t,N⟩:=A;have H:=au t;obtain⟨g,i,K,_⟩:=Dv J;obtain⟨f,S,rfl⟩:=List.getElem_of_mem i;have a0:f<k.length:=Zm;have R:=wj (e.zip k |>.map λg=>(g.1.1,g.2));obtain⟨o,q,m,z,M⟩:=abv (P:=prog) (T:=148) (kt:=9) (et:=157) (d:=.string) Zk Zk (s:=⟨j.toArray⟩) trivial t Zm
  ⟨⟨.string ⟨e[f].1.toArray⟩,k[f],f⟩,by
   grind,Zg⟩ (.iface (dI d) (Zp b))
 simp only[List.getElem?_mapIdx]at m;have a1:o<e.length:=by
  grind
 rw[Yd Zu]at m;simp at m;subst m;simp at z;have F:f=o:=by
  have L:(e.map (·.1))[f]' Zu=(e.map (·.1))[o]' Zu:=Zu;exact wl p _ _ _ _ L
 subst F;refine⟨_,M,?_,y++bs',k.set f (.iface (dI d) (Zp b)),?_,?_,?_,?_⟩
 .rw[Lf];omega
 .intro g i;rcases Yn.1 i with i|i
  .exact(B.ac (jC ..) Zu) g i
  .exact(E.ac (jC ..) Zu) g i
 .simp[ep,C]
 .rw[qH H];unfold uJ;have G:(List.map (λg:(Zb×Option aC)×Zv=>(g.1.1,g.2)) ((ep e j d).zip (k.set f (.iface (dI d) (Zp b))))).length=(List.map (λg:(Zb×Option aC)×Zv=>(g.1.1,g.2)) (e.zip k)).length:=by simp[ep]
  rw[G];refine Yo (λx=>some (Obj.map x _)) ?_;apply Array.ext';simp only[Array.toList_modify];apply List.ext_getElem
  .simp_all
  .intro h a3 a4;have I:h<e.length:=Zu;by_cases n:f=h
   .simp_all[ep]
   .have u:¬e[h].1=j:=λq=>n (wl p f h Zu Zu Zu);simp_all[ep]
 .intro h I a2;have a5:h<e.length:=Zu;by_cases n:f=h
  .subst n;have r:(ep e j d)[f].2=some d:=by simp[ep,K]
   rw[r,List.getElem_set_self];exact tR (λg i=>Ym _ i) (show mn bs' _ (some d)from⟨b,rfl,D⟩)
  .have u:¬e[h].1=j:=λq=>n (wl p f h Zu Zu Zu);have r:(ep e j d)[h].2=e[h].2:=by simp[ep,u]
   grind [tR]
end
section
variable {α:Type}{a b:St}
def js(d:PM α):Prop:=∀a c b,d a=.ok (c,b)->b.K=a.K
theorem js.bt{k:Type}{f:PM α}{g:α->PM k}(i:js f)(h:∀d,js (g d)):js (aM f g):=by
 intro a l b c;cases e:f a with
 |error m=>rw[bO e]at c;cases c
 |ok j=>
  obtain⟨d,n⟩:=j;rw[aK e]at c;rw[h d _ _ _ c,i _ _ _ e]
theorem js.ret(c:α):js (ret c):=by
 intro a d b e;grind [YtjdhaegijjednaaGreatDoor.ret]
theorem Ca(e c:Nat):js (gU (α:=α) e c):=λa f b d=>by cases d
def vF{a:Prop}[Decidable a]{b c:PM α}(d:js b)(e:js c):js (if a then b else c):=Zg
def KC(c:Za):js (next c):=by
 intro a d b e;grind [next]
def ZN(a:Za)(b:Zb):js (cI a b):=(KC a).bt λc=>vF (js.ret _) (Ca _ _)
def ZM(c:Mar.aX):js (mI c):=by
 intro a d b e;grind [mI]
def ZO(a:Mar.aX):js (kX a):=
 vF (js.ret _) (vF (ZM a) (vF (js.ret _) (vF (js.ret _) (Ca _ _))))
def ZQ(a:Za)(b:Int->Bool):js (jG a b):=(KC a).bt λc=>(ZO c).bt λd=>vF (js.ret _) (Ca _ _)
def ZP{f:Za}{e:Int->Bool}{h k:List (Int×Int)}{l:Int}(c:hx f e h a=.ok (l,k,b)):b.K=a.K:=by
 unfold hx at c;cases g:jG f e a with
 |error i=>simp_all[bR,cZ]
 |ok d=>
  obtain⟨d,n⟩:=d;rw[bf (bF g)]at c;cases j:nC d.1 d.2 h ⟨6,d.2⟩with
  |error i=>simp_all[bR,wx]
  |ok m=>
   rw[bf (wy j)]at c;simp only[dA,Except.ok.injEq,Prod.mk.injEq]at c;rw[<-c.2.2];exact ZQ f e _ _ _ g
def Wz{i:Za}{h:Zb×Nat}(c:iK i a=.ok (h,b)):aO b.K h.1=some none:=by
 unfold iK kR name at c;cases k:next i a with
 |error m=>simp_all[bR,cZ]
 |ok l=>
  obtain⟨d,e⟩:=l;rw[bf (bF k)]at c;by_cases f:((d.F:Int)==1)=true
  .rw[Y9 f]at c;cases g:aO e.K d.text with
   |none=>
    have j:iI d e=.ok ((),{ e with K:=e.K++[(d.text,none)] }):=by simp only[iI,g]
    rw[bf (show (iz tq).bb d () e=_ from bF j)]at c;simp only[dA,Except.ok.injEq,Prod.mk.injEq]at c;obtain⟨rfl,rfl⟩:=c;unfold aO at g ⊢;grind
   |some n=>
    simp_all[iI,bR,iz,cZ]
  .rw[Y2 f]at c;cases c
def ft(c pt b:Nat):PM Unit:=λa=>if pt<=c then .error ⟨5,b⟩else .ok ((),a)
def Du(c:Zb)(b:aC):PM Unit:=λa=>.ok ((),{ a with K:=ep a.K c b })
def jz(b:Za)(d:Nat):PX (List (Int×Int)) (Zb×Nat×Int):=
 aP (lift (hA b)) λc=>aP (lift (ft d 12 c.y)) λ_=>aP (lift (lA c.y)) λ_=>aP (lift (iK b)) λa=>aP (lift (cI b [61])) λ_=>
  aP (hx b (dV (-2147483648) 2147483647)) λv=>aP (lift (Du a.1 (.const a.1 a.2 v))) λ_=>dA (a.1,a.2,v)
end
section
variable {a:Ad}{e:List (Int×Int)}{c:Nat}{w:Zw}{g:St}
def nD(a:Zb×Nat×Int):Obj:=.cells #[.string ⟨a.1.toArray⟩,U a.2.1,U a.2.2] 343
def BR(k:List Nat)(a:Ad)(l:Za)(w:Zw)(c:Nat)(i:Except Mar.ay ((Zb×Nat×Int)×List (Int×Int)×St))(f:Ending)(b:Zw):Prop:=
 an k w b/\((∃h g j e,i=.ok (h,g,j)/\f=.returned (Zp e)/\Rd a l j b/\dH c g b/\bW a.X [(e,nD h)] b)\/(∃d,i=.error d/\fm w d.no d.y f b))
def vw{e M' m w1 d}{g:Except Mar.ay ((Zb×Nat×Int)×List (Int×Int)×St)}{f}{b:Nat}
  (j:an e w d) (k:an M' w w1) (l:g=.error f) (h:w1.heap.size<=b) (i:d.heap[b]? = some (.cells #[U f.no,U f.y] 179)) :
  BR e a m w c g (.panicked [{ v:=.iface 143 (Zp b),recovered:=false }]) d:=
 ⟨j,Ya ⟨f,l,b,Yz k.aD h,rfl,i⟩⟩
theorem dK.a1(d:dK a c)(b:Nat):dK (a.a1 b) c:=⟨Y5 _ d.1,d.2⟩
def Ka{b}(k:fW b a){d v f}(j:Rd b d g w)(l:iS b.X v f w)(n:dK b c)(m:dH c e w) :
  Calls prog 250 #[Zp a.R,.map (some c),v] w (mp [a.S,c] b d w (hx d f e g) kW (dH c)):=by
 obtain⟨h,i,o,p⟩:=k;rw[<-h,<-i];exact JZ j l n m
def Vl{a0}(A:Nat)(a3:Rd a a0 g w)(q:dK a c)(d2:dH c e w) :
  Calls prog 193 #[Zp a.R,U A,.map (some c)] w (BR [a.R,a.S,a.N,c] a a0 w c (jz a0 A e g)):=by
 have h4:=je;obtain⟨f2,f3,f4,f5,f6,g8⟩:=a3.al;have h0:=Hy;have b0:c ∉ [a.S]:=by simp;exact q.2.2.1
 go_in;go_wp21;refine(DT a3).mono ?_;rintro m h9 ⟨K,⟨G,a2,l,rfl,e3⟩|⟨u,l,p,h,rfl,j⟩⟩;rotate_left
 .exact aE (vw (K.ak Zq) (ao [] _) (bR (cZ l)) h j)
 have d3:=d2.ac K b0;have x:=K.ak (M':=[a.R,a.S,a.N,c]) Zq;dsimp only[dx];go_wp21;by_cases a5:(12:Nat)<=A
 .refine(uV _ _ _ _ Zm).mono ?_;rintro m b9 ⟨⟨p,h,rfl,j⟩,c8⟩;exact aE (vw (f:=⟨5,G.y⟩) (x.u (bT _ c8)) x ((bf (bF l)).trans (bR (cZ (show ft A 12 G.y a2=_ from Y9 a5)))) h j)
 have y:ft A 12 G.y a2=.ok ((),a2):=Y2 a5;refine(uW _ _ _ _ Zm).mono ?_;rintro m b9 ⟨rfl,rfl⟩;go_wp21;refine(JS G.y e3).mono ?_;rintro m b9 ⟨L,⟨h8,i2,s,rfl,e4⟩|⟨u,s,p,h,rfl,j⟩⟩;rotate_left
 .exact aE (vw (x.u (L.ak Zq)) x ((bf (bF l)).trans ((bf (bF y)).trans (bR (cZ s)))) h j)
 have d4:=d3.ac L (by simp;exact q.2.1);have H:=x.u (L.ak (M':=[a.R,a.S,a.N,c]) Zq);go_wp21;refine(yg e4).mono ?_;rintro m f ⟨M,⟨b,i3,t,rfl,r⟩|⟨u,t,p,h,rfl,j⟩⟩;rotate_left
 .exact aE (vw (H.u (M.ak Zq)) H ((bf (bF l)).trans ((bf (bF y)).trans ((bf (bF s)).trans (bR (cZ t))))) h j)
 have a7:=d4.ac M (by simp;exact⟨q.2.2.1,q.2.2.2.1⟩);have a4:=H.u (M.ak (M':=[a.R,a.S,a.N,c]) Zq);dsimp only[il];have g5:=r.a3;have h1:=r.lt.2.1;have h2:=au a7;have e5:=r.ae (.cells #[.string ⟨b.1.toArray⟩,U b.2,U 0] 343);have b2:=aQ (w:=f) (o:=.cells #[.string ⟨b.1.toArray⟩,U b.2,U 0] 343) rfl;have d5:dH c e (f.alloc (.cells #[.string ⟨b.1.toArray⟩,U b.2,U 0] 343)):=a7.ac ((ao [] f).H _) Zq;have I:=a4.H (.cells #[.string ⟨b.1.toArray⟩,U b.2,U 0] 343);have d9:f.heap.size ∉ [a.S]:=Zg;have e0:f.heap.size ∉ [a.S,c]:=Zg;go_wp21;refine(gS (fX a _) _ e5).mono ?_;rintro m i0 ⟨D,⟨i1,i4,z,rfl,b1⟩|⟨u,z,p,h,rfl,j⟩⟩;rotate_left
 .exact aE (vw (I.u (D.ak Zq)) I ((bf (bF l)).trans ((bf (bF y)).trans ((bf (bF s)).trans ((bf (bF t)).trans (bR (cZ z)))))) h j)
 have b3:=(D.L _ (au b2) d9).trans b2;have a8:=d5.ac D b0;have c5:=I.u (D.ak (M':=[a.R,a.S,a.N,c]) Zq);go_wp21;refine(vl _ _ _).mono ?_;rintro m f0 ⟨v,rfl,B,d0⟩;have c9:=d0 (a.a1 f.heap.size).X b1.a3;have e6:=b1.ah B;have b4:=(B.block _ (au b3)).trans b3;have d6:dH c e f0:=(B.block _ (au a8)).trans a8;have J:=c5.u (bT _ B);go_wp21;refine(Ka (fX a _) e6 c9 (q.a1 _) d6).mono ?_;rintro m a1 ⟨O,⟨k,b7,f1,F,rfl,e7,d7⟩|⟨u,F,p,h,rfl,j⟩⟩;rotate_left
 .exact aE (vw (J.u (O.ak Zq)) J ((bf (bF l)).trans ((bf (bF y)).trans ((bf (bF s)).trans ((bf (bF t)).trans ((bf (bF z)).trans (bR F)))))) h j)
 have b5:=(O.L _ (au b4) e0).trans b4;have c6:=J.u (O.ak (M':=[a.R,a.S,a.N,c]) Zq);have d1:aO f1.K b.1=some none:=by rw[ZP F,ZN _ _ _ _ _ z];exact Wz t
 obtain⟨h5,h6,h7,g9⟩:=fq b5;dsimp only[kW];have b6:=bv (i:=2) b5 (U k);have e8:=vH (A':=a.a1 f.heap.size) r ⟨rfl,rfl,rfl,rfl⟩ e7 (p:=⟨f.heap.size,2,none⟩) (Y4 _) (by simp[Ad.a1]) (U k);have d8:dH c b7 (a1.setCell ⟨f.heap.size,2,none⟩ (U k)):=d7.ac ((ao [f.heap.size] a1).aH Zq _) Zg;have c7:=c6.b4 (p:=⟨f.heap.size,2,none⟩) (Nat.le_of_lt_succ (Nat.lt_succ_of_le a4.aD)) (U k);go_wp21;have E:=tZ r.az e8;generalize a1.setCell ⟨f.heap.size,2,none⟩ (U k)=n at *
 have a6:bW a.X [(f.heap.size,nD (b.1,b.2,k))] n:=by
  intro b8 a9;simp only[Yc]at a9;subst a9;exact⟨b6,λh3=>by grind⟩
 have C:Below n.heap.size n n.drew:=(Below.refl ..).drew;obtain⟨e9,e2,e1⟩:=(E.nm.ah C).a5 E.az.2.2.1 d1 (d:=.const b.1 b.2 k) (b:=f.heap.size) (bs':=[(f.heap.size,nD (b.1,b.2,k))]) (by show _∈_;simp[nD]) (a6.ac (bT [] C) Zq);dsimp only[dI]at e2;obtain⟨f7,f8,f9,g0,g1,g6⟩:=E.al;obtain⟨g2,g3,g4,g7⟩:=fq b6;have c1:=aa c7;have c2:=aa d8;have c4:=aa E;have c0:=aa a6;have c3:=aa e1;go_region;go_wp2;go_ret;have P:an [a.N] n (eG n.drew a.N e9):=(bT _ C).u (jC ..);refine⟨c1.w.u (P.ak Zq),Y8 ⟨(b.1,b.2,k),b7,_,f.heap.size,?_,rfl,Rd.kJ (c4.w.ah C) c3.w,c2.w.ac P (by simp;exact q.2.2.2.1),c0.w.ac P (by simpa using r.az.2.2.1)⟩⟩;exact(bf (bF l)).trans ((bf (bF y)).trans ((bf (bF s)).trans ((bf (bF t)).trans ((bf (bF z)).trans (bf F)))))
end
section
variable {A r:Ad}{h z g m D:Nat}{s x e t:List Nat}{l u:List (Int×Int)}{a:Zb×Nat×Int}{d:List (Zb×Nat×Int)}{n:Zb×Nat}{o:Zv}{f q c B:Zw}{E:Zl}{j w C:St}
def Ad.aw(A:Ad)(e:List Nat):Ad:={ A with X:=e++A.X }
theorem du(A:Ad)(e:List Nat):fW (A.aw e) A:=⟨rfl,rfl,rfl,rfl⟩
def mx{d}(f:A.R∈A.X/\A.S∈A.X/\A.N∈A.X/\A.P∈A.X)(a:Rd (A.aw e) d j c):Rd A d j c:=
 ⟨a.me,a.sc,a.nm.bE (λ_ b=>Ym _ b),f,λg b=>a.a3 g (Ym _ b),a.pr,a.np,a.gl,a.dO,a.bc⟩
def Rd.b1{d}(e:Rd A d C c)(m:fW r A)(l:Rd r d j f)(n:an s f q)(g:∀a∈s,c.heap.size<=a/\a∈r.X):Rd r d j q:=by
 obtain⟨v,w,x,y⟩:=e.lt;obtain⟨⟨a,h⟩,⟨_,_,i⟩,⟨_,_,k⟩⟩:=e.gl;have h:=jy h;have i:=jy i;have k:=jy k;obtain⟨o,p,t,u⟩:=m;refine l.ac n (λa b=>(g a b).2) ?_ ?_ ?_ ?_ ?_ ?_ ?_<;>(intro b;have:=(g _ b).1;omega)
def gt{b}(a:c.grownBy B b):an b.toList c B:=
 ⟨a.os,a.tape,a.output,a.size,λf d e=>a.block f d (λg=>e Zu)⟩
def vG{m i}(n:Rd A m C c)(o:fW r A)(k:Rd r m j f)(v:f.grownBy q i)
  (w:∀b,i=some b->c.heap.size<=b/\b∈r.X) (u:i=some g\/g=f.heap.size) (H:g<q.heap.size):Rd (r.a1 g) m j q:=by
 have p:=gt v;have l:∀a∈i.toList,c.heap.size<=a/\a∈r.X:=λa h=>w a Zu;have d:=n.b1 o k p l;obtain⟨x,y,z,B⟩:=d.az;refine⟨d.me,d.sc,?_,⟨Y5 _ x,Y5 _ y,Y5 _ z,Y5 _ B⟩,?_,d.pr,d.np,d.gl,d.dO,d.bc⟩
 .rcases u with t|t
  .exact d.nm.bE (λs e=>by
    rcases Yg.1 e with rfl|e;all_goals simp_all)
  .obtain⟨I,J,K,L⟩:=k.lt;refine(k.nm.a1 (b:=g) Zm).ac p (λa h=>Y5 _ (l a h).2) (λh=>?_);have:=(l _ h).1;have:=n.lt.2.2.1;obtain⟨D,E,F,G⟩:=o;omega
 .intro s e;rcases Yg.1 e with rfl|e
  .omega
  .exact d.a3 s e
def bW.a9{a d b}(i:bW a d f)(k:f.grownBy q b)(n:∀c,b=some c->c∈a)(p:b=some g\/g=f.heap.size):bW (g::a) d q:=by
 intro o m;obtain⟨e,j⟩:=i o m;have l:=au e;refine⟨(k.block _ l (λh=>j (n _ h.symm))).trans e,?_⟩;grind
theorem bw{b n v}(a:c.ownsRow z b D v n E)(k:an s c B)(j:∀g,v.ownBlock=some g->g ∉ s):B.ownsRow z b D v n E:=by
 refine⟨a.1,?_⟩;rcases a.2 with a|⟨g,e,f,rfl,h,d,i⟩
 .simp_all
 .exact Ya ⟨g,e,f,rfl,h,(k.L _ (au d) (j g rfl)).trans d,i⟩
def hR{a n v}(b:c.ownsRow z a D v n E)(k:v.ownBlock=some g):z<=g/\g<c.heap.size:=by
 rcases b.2 with⟨rfl,_⟩|⟨f,d,e,rfl,h,i,j⟩;all_goals grind [Value.ownBlock]
def an.b1(b:an s c f)(d:an x f q)(i:∀a∈x,a∈s\/c.heap.size<=a):an s c q:=
 ⟨d.os.trans b.os,d.dq.trans b.dq,d.dp.trans b.dp,Yz b.aD d.aD,λg e h=>(d.L g (Yr e b.aD) (λj=>by
  grind)).trans (b.L g e h)⟩
def an.cons{b:List Nat}(d:an s c f)(h:an x f q)(e:∀a∈s,a∈b)(g:∀a∈x,a∈b):an b c q:=(d.ak e).u (h.ak g)
def ot(a:Za)(n:Zb×Nat)(d:List (Zb×Nat×Int)):PM aC:=aM (cI a Jl) λ_=>aM (cI a [59]) λ_=>ret (.enum n.1 n.2 d)
def iB(b:Za)(n:Zb×Nat):Nat->List (Zb×Nat×Int)->List (Int×Int)->PM aC
 |0,_,_=>gU 0 0
 |k+1,d,l=>λj=>match jz b d.length l j with
  |.ok (a,u,w)=>aM (eu b [44]) (λe=>if e then iB b n k (d++[a]) u else ot b n (d++[a])) w
  |.error c=>.error c
def rW{b}{c:Nat}(e:jz b d.length l j=.ok (a,u,w)) :
  iB b n (c+1) d l j=aM (eu b [44]) (λf=>if f then iB b n c (d++[a]) u else ot b n (d++[a])) w:=by simp only[iB,e]
theorem tj{b}{e:Nat}{a}(c:jz b d.length l j=.error a) :
  iB b n (e+1) d l j=.error a:=by simp only[iB,c]
def ik(a:Za)(b:Nat):PM aC:=aM (lB b) λ_=>aM (iK a) λn=>aM (cI a Jv) λ_=>iB a n 13 [] []
structure ni(A:Ad)(text:Za)(c:Zw)(h m:Nat)(n:Zb×Nat)(d:List (Zb×Nat×Int))(t e:List Nat)(l:List (Int×Int))(o:Zv)(j:St)(f:Zw):Prop where
 kp:an [A.R,A.S,A.N] c f
 rd:Rd (A.aw e) text j f
 az:h∈e/\m∈e/\h≠m
 aB:∀y∈e,c.heap.size<=y
 aR:dH m l f
 ap:f.heap[h]? = some (.cells #[.string ⟨n.1.toArray⟩,U n.2,o] 253)
 row:f.ownsRow c.heap.size 223 1 o d.length (t.map λb=>Zp b)
 ae:∀g,o.ownBlock=some g->g∈e/\g≠h/\g≠m
 av:t.length=d.length
 d7:bW (A.aw e).X ((t.zip d).map λp=>(p.1,nD p.2)) f
def ni.bk{b}(g:Rd A b C c)(a:ni A b c h m n d t e l o j f):dK (A.aw e) m:=by
 obtain⟨k,p,q,r⟩:=g.lt;have i:=a.aB _ a.az.2.1;refine⟨Yf _ a.az.2.1,?_,?_,?_,?_⟩<;>simp only[Ad.aw]<;>omega
theorem Ny{I}{r J s:Zw}{k B:Nat}(K:Rd A I C c)
  (b:ni A I c h m n d t e l o j f) (F:an [A.R,A.S,A.N,m] f r) (a0:Rd (A.aw e) I w r) (a9:dH m u r) (a6:bW (A.aw e).X [(k,nD a)] r) (p:Below r.heap.size r J)
  (P:s.ownsRow c.heap.size 223 1 (.slice (some ⟨g,0,none⟩) (d.length+1) B) (d.length+1) ((t.map λk=>Zp k)++[Zp k]))
  (E:J.grownBy s o.ownBlock) (D:o.ownBlock=some g\/g=J.heap.size) (a7:g<s.heap.size) :
  ni A I c h m n (d++[a]) (t++[k]) (g::e) u (.slice (some ⟨g,0,none⟩) (d.length+1) B) w (s.setCell ⟨h,2,none⟩ (.slice (some ⟨g,0,none⟩) (d.length+1) B)):=by
 obtain⟨H,O,b3⟩:=b.az;obtain⟨c0,_⟩:=hR P (g:=g) rfl;have b2:=au b.ap;have c8:=au b.aR;have b6:=b.aB _ H;have c9:=b.aB _ O;have c1:=F.aD;have c2:=p.size;have c3:=E.size;have b8:g≠h:=by
  rcases D with v|v
  .exact(b.ae g v).2.1
  omega
 have b9:g≠m:=by
  rcases D with v|v
  .exact(b.ae g v).2.2
  omega
 have a1:∀k,o.ownBlock=some k->c.heap.size<=k/\k∈(A.aw e).X:=λk p=>⟨b.aB _ (b.ae k p).1,Yf _ (b.ae k p).1⟩;have L:=gt E;have x:an [h] s (s.setCell ⟨h,2,none⟩ (.slice (some ⟨g,0,none⟩) (d.length+1) B)):=(ao [h] s).aH Zq _;have G:an [] r J:=bT _ p;obtain⟨c4,c5,c6,c7⟩:=K.lt;have b4:h ∉ o.ownBlock.toList:=by
  intro a8;exact(b.ae h Zu).2.1 rfl
 have b5:m ∉ o.ownBlock.toList:=by
  intro a8;exact(b.ae m Zu).2.2 rfl
 have b1:=(((a9.ac G Zq).ac L b5).ac x Zg);have a5:s.heap[h]? = some (.cells #[.string ⟨n.1.toArray⟩,U n.2,o] 253):=
  (L.L _ Zm b4).trans ((G.L _ Zm Zq).trans ((F.L _ b2 Zg).trans b.ap))
 refine⟨?_,?_,⟨Y5 _ H,Y5 _ O,b3⟩,?_,b1,?_,?_,?_,?_,?_⟩
 .refine(((b.kp.b1 F ?_).b1 G Zq).b1 L ?_).b1 x Zu;all_goals simp_all
 .exact K.b1 (du A (g::e)) (vG K (du A e) (a0.ah p) E a1 D a7) x (by
   intro a2 q;simp only[Yc]at q;subst q;exact⟨b6,Yf _ (Y5 _ H)⟩)
 .intro b7 M;rcases Yg.1 M with rfl|M
  .omega
  .exact b.aB b7 M
 .exact bv (i:=2) a5 _
 .have:=bw P x (by
   grind [Value.ownBlock])
  simp_all
 .grind [Value.ownBlock]
 .simp[b.av]
 .rw[List.zip_append (by exact b.av),List.map_append];have a3:∀a∈[A.R,A.S,A.N,m],a∈(A.aw e).X:=by
   have:=a0.az;intro a2 q;simp at q;rcases q with rfl|rfl|rfl|rfl
   .exact this.1
   .exact this.2.1
   .exact this.2.2.1
   .exact Yf _ O
  have b0:=b.d7.ac F a3;have a4:bW (A.aw e).X (((t.zip d).map λz=>(z.1,nD z.2))++[(k,nD a)]) r:=by
   intro z y;rcases Yn.1 y with y|y
   .exact b0 z y
   .exact a6 z y
  exact((a4.ac G Zq).a9 E (λk p=>(a1 k p).2) D).ac x (by
   intro a2 q;simp only[Yc]at q;subst q;exact Y5 _ (Yf _ H))
end
structure fI where
 F:Nat
 text:Zb
 y:Nat
 fin:Nat
 n:Int
 e:Nat
abbrev gW(a:fI):Array Zv:=#[U a.F,Zs a.text,U a.y,U a.fin,U a.n,U a.e]
def hQ(a:Zb)(b:Nat):fI:=match Mar.c8 (a.drop (gj a b)) (gj a b)with
 |.ok c=>⟨c.F,c.text,gj a b,gj a b+c.text.length,c.n,0⟩
 |.error d=>⟨5,[],gj a b,0,0,d.no⟩
def aa9{b:Zb}{a c:Nat}(n:a<b.length)(l:a<c)(m:c<=b.length)(j:∀d (g:d<b.length),a<d->d<c->Mar.c5 b[d]=true)(k:∀f:c<b.length,Mar.c5 b[c]=false):(b.drop a).take (c-a)=Mar.bb (b.drop a):=by
 have:=Eo ⟨(b.drop a).toArray⟩ (c-a) Zm (by simp[ByteArray.size];omega) (by
  intro d g h i;have e:d<(b.drop a).length:=Zg;show Mar.c5 ((b.drop a)[d]'e)=true;grind) (by
  intro f;have e:c-a<(b.drop a).length:=by simpa[ByteArray.size]using f
  show Mar.c5 ((b.drop a)[c-a]'e)=false;grind)
 simp_all
def Qw(c:Zb)(a b:Nat):(⟨c.toArray⟩:Za).extract a (a+b)=⟨((c.drop a).take b).toArray⟩:=by
 apply ByteArray.ext;simp
def Uf{a:Zb}(c:Mar.et a=true):¬16<a.length:=by
 have:Mar.iu.all (λb=>decide (b.length<=16))=true:=Zr;grind [Mar.et]
def Qu(a:Zb)(b:Nat):(⟨a.toArray⟩:Za).extract b a.length=⟨(a.drop b).toArray⟩:=by
 apply ByteArray.ext;simp only[ByteArray.data_extract];apply Array.ext';simp[Array.toList_extract,List.extract];exact List.take_of_length_le Zq
def abz(a:UInt8):Mar.f9 a=(((a.toNat:Int)==123)||((a.toNat:Int)==125)||((a.toNat:Int)==40)||((a.toNat:Int)==41)||((a.toNat:Int)==91)||((a.toNat:Int)==93)||((a.toNat:Int)==60)||((a.toNat:Int)==62)||((a.toNat:Int)==42)||((a.toNat:Int)==44)||((a.toNat:Int)==59)||((a.toNat:Int)==58)||((a.toNat:Int)==61)):=by
 have b:((a.toNat:Int)==123)=(a==123):=nh a 123 Zm;have g:((a.toNat:Int)==125)=(a==125):=nh a 125 Zm;have h:((a.toNat:Int)==40)=(a==40):=nh a 40 Zm;have i:((a.toNat:Int)==41)=(a==41):=nh a 41 Zm;have j:((a.toNat:Int)==91)=(a==91):=nh a 91 Zm;have k:((a.toNat:Int)==93)=(a==93):=nh a 93 Zm;have l:((a.toNat:Int)==60)=(a==60):=nh a 60 Zm;have m:((a.toNat:Int)==62)=(a==62):=nh a 62 Zm;have n:((a.toNat:Int)==42)=(a==42):=nh a 42 Zm;have c:((a.toNat:Int)==44)=(a==44):=nh a 44 Zm;have d:((a.toNat:Int)==59)=(a==59):=nh a 59 Zm;have e:((a.toNat:Int)==58)=(a==58):=nh a 58 Zm;have f:((a.toNat:Int)==61)=(a==61):=nh a 61 Zm;rw[b,g,h,i,j,k,l,m,n,c,d,e,f];simp only[Mar.f9,List.contains_cons,List.contains_nil,Bool.or_false,Bool.or_assoc]
def HE{a:Zb}{b:Nat}(c:b<=a.length):gj a b<=a.length:=by
 grind [gj,Mar.eX,Mar.m0]
def ym(b:Nat):Except Mar.ay Mar.aX->fI
 |.ok a=>⟨a.F,a.text,b,b+a.text.length,a.n,0⟩
 |.error c=>⟨5,[],b,0,0,c.no⟩
def Oj(a:Zb)(f:Nat)(p:f<=a.length)(d9:a.length<=2000)(k:Zw) :
  Calls prog 80 #[Zs a,U f] k λi c9=>i=.returned (.agg (gW (hQ a f)))/\an [] k c9:=by
 have H:=λc7=>SV a f p Zm c7;have b9:=HE p;have E:hQ a f=ym (gj a f) (Mar.c8 (a.drop (gj a f)) (gj a f)):=by unfold hQ ym;rfl
 generalize gj a f=b at *
 have H:=aa H;rcases Yj b a.length with y|d5
 .have r:af (hQ a f=if Mar.e5 a[b]then ym b (Mar.eB (Mar.bb (a.drop b)) b)else if Mar.d4 a[b]||a[b]==45 then ym b (Mar.gQ (Mar.bb (a.drop b)) b)else if Mar.f9 a[b]then ⟨4,[a[b]],b,b+1,0,0⟩else ⟨5,[],b,0,0,2⟩):=by
   show _=_;rw[E,Yk y];unfold Mar.c8;simp only;repeat' split
   all_goals rfl
  have d6:(0:Int)<=(b:Int):=Zm;have d7:(b:Int)<(a.length:Int):=Zm;have d8:((b:Int)==(a.length:Int))=false:=by rw[Yi];omega
  have d4:(⟨a.toArray⟩:Za)[b]'(by simp[ByteArray.size];exact y)=a[b]:=rfl;have b4:=aa (Ir a[b]);have b2:=aa (CK a[b]);have F:=aa (abz a[b]);have d2:((a[b].toNat:Int)==45)=(a[b]==45):=nh _ 45 Ze;have a1:af ((a.drop b).take 1=[a[b]]/\∃O,Mar.bb (a.drop b)=a[b]::O):=aa ⟨by rw[Yk y];rfl,_,by rw[Yk y];rfl⟩;have a9:af ((a[b]==45)=true->a[b]=45):=aa Zq;generalize b8:a[b]=m at *
  clear b8 b9 E;generalize b7:(m==45)=e at *
  generalize a5:Mar.e5 m=w at *
  generalize a4:Mar.d4 m=o at *
  have b1:=aa (Yp a5 a4);clear a5 a4 b7;go_in;go_wp21;refine(H.w _).mono ?_;rintro i s ⟨rfl,rfl⟩;go_wp21;refine(b4.w _).mono ?_;rintro i s ⟨rfl,rfl⟩;go_wp21;refine(b2.w _).mono ?_;rintro i s ⟨rfl,rfl⟩;go_upto_region 8 with fail;go_cut [40] (λb5 wc=>b5=.bool (w||o||e)/\k.alloc (.cells #[U 0,.string ⟨#[]⟩,U 0,U 0,U 0,U 0] 112)=wc);case first=>cases w<;>cases o<;>cases e<;>(go_wp2;go_meet;case rel=>exact⟨rfl,rfl⟩)
  case rest=>
  obtain⟨rfl,rfl⟩:=hcut;go_upto_if 40 with fail;go_cut [6,40] (λz _ wc=>∃c,z=U ((b+c.length:Nat):Int)/\af (c=if w||o||e then Mar.bb (a.drop b)else [m])/\(a.drop b).take c.length=c/\c.length<=a.length-b/\k.alloc (.cells #[U 0,.string ⟨#[]⟩,U 0,U 0,U 0,U 0] 112)=wc)
  case first=>
   cases a3:(w||o||e)with
   |false=>
    go_wp2;go_meet;case rel=>exact⟨[m],Zj,aa (by simp[a3]),a1.w.1,Zx,rfl⟩
   |true=>
    go_wp21;go_loopw [6] (λz c8=>∃d:Nat,z=U d/\b<d/\d<=a.length/\af (∀j (K:j<a.length),b<j->j<d->Mar.c5 a[j]=true)/\c8=k.alloc (.cells #[U 0,.string ⟨#[]⟩,U 0,U 0,U 0,U 0] 112)) (λz _=>a.length-(intOf z).toNat)
    case atStart=>exact⟨b+1,Zj,Zm,y,(λj K x A=>by omega),rfl⟩
    case round=>
     obtain⟨d,rfl,c2,c1,D,rfl⟩:=hrel;have kU:af ((∀g:d<a.length,Mar.c5 a[d]=false)->∃c,(d:Int)=((b+c.length:Nat):Int)/\af (c=if w||o||e then Mar.bb (a.drop b)else [m])/\(a.drop b).take c.length=c/\c.length<=a.length-b):=aa λg=>by
      have a6:=aa9 y c2 c1 D.w g;have c0:d-b=(Mar.bb (a.drop b)).length:=by rw[<-a6,YW,YI];omega
      exact⟨Mar.bb (a.drop b),Zm,aa (by simp[a3]),by rw[<-c0];exact a6,Zm⟩
     rcases Yj d a.length with a0|a0
     .have f5:(0:Int)<=(d:Int):=Zm;have d1:(d:Int)<(a.length:Int):=Zm;have d3:(⟨a.toArray⟩:Za)[d]'(by simp[ByteArray.size];exact a0)=a[d]:=rfl;have I:=Ir a[d];have G:=CK a[d];have B:Mar.c5 a[d]=(Mar.e5 a[d]||Mar.d4 a[d]||((a[d].toNat:Int)==95)):=by
       unfold Mar.c5;congr 1;rw[Bool.eq_iff_iff];simp;omega
      have b0:af (Mar.c5 a[d]=true->∀j (K:j<a.length),b<j->j<d+1->Mar.c5 a[j]=true):=aa λg j K x A=>by
       by_cases i:j=d
       .subst i;exact g
       .exact D.w j K x Zm
      cases S:Mar.e5 a[d]<;>cases J:Mar.d4 a[d]<;>cases b6:((a[d].toNat:Int)==95)<;>rw[S,J,b6]at B<;>rw[S]at I<;>rw[J]at G<;>replace I:=aa I<;>replace G:=aa G<;>replace B:=aa B<;>clear S J D
      all_goals
       go_wp2_with (first|(refine(I.w _).mono ?_;rintro i s ⟨rfl,rfl⟩)|(refine(G.w _).mono ?_;rintro i s ⟨rfl,rfl⟩))
      .go_meet;case rel=>
        obtain⟨c,x,A,P,R⟩:=kU.w (λ_=>B.w);exact⟨c,Yo _ x,A,P,R,rfl⟩
      all_goals exact⟨⟨d+1,Zj,Zm,a0,aa (b0.w B.w),trivial⟩,Zz⟩
     .have d1:¬((d:Int)<(a.length:Int)):=Zm;clear D;go_wp2;go_meet;case rel=>
       obtain⟨c,x,A,P,R⟩:=kU.w (λg=>by omega);exact⟨c,Yo _ x,A,P,R,rfl⟩
  case rest=>
  obtain⟨c,rfl,u,a8,e1,rfl⟩:=hcut;have hcut:(⟨a.toArray⟩:Za).extract b (b+c.length)=⟨c.toArray⟩:=by rw[Qw,a8]
  have c5:(b:Int)<=((b+c.length:Nat):Int):=Zm;have c6:((b+c.length:Nat):Int)<=(a.length:Int):=Zm;clear a8;cases w with
  |true=>
   have b3:=aa (Ue ⟨c.toArray⟩);have l:af (hQ a f=ym b (Mar.eB c b)):=by show _=_;rw[r.w,u.w];rfl
   clear r u;go_wp21;refine(b3.w _).mono ?_;rintro i s ⟨rfl,rfl⟩;cases p:Mar.et c with
   |true=>
    have h:af (hQ a f=⟨2,c,b,b+c.length,0,0⟩):=by show _=_;rw[l.w];unfold Mar.eB;rw[Y2 (Uf p),Y9 p];rfl
    clear p l;go_wp2;refine bodyPost_ret (v:=.agg (gW ⟨2,c,b,b+c.length,0,0⟩)) (by simp[results,results80,go_sem]) rfl ⟨by rw[h.w],(ao [] k).H _⟩
   |false=>
    by_cases a2:16<c.length
    .have h:af (hQ a f=⟨5,[],b,0,0,7⟩):=by show _=_;rw[l.w];unfold Mar.eB;rw[Y9 a2];rfl
     have c4:(16:Int)<(c.length:Int):=Zm;clear p l;go_wp2;refine bodyPost_ret (v:=.agg (gW ⟨5,[],b,0,0,7⟩)) (by simp[results,results80,go_sem]) rfl ⟨by rw[h.w],(ao [] k).H _⟩
    .have h:af (hQ a f=⟨1,c,b,b+c.length,0,0⟩):=by show _=_;rw[l.w];unfold Mar.eB;rw[Y2 a2,Y2 (by rw[p];simp)];rfl
     have c4:¬((16:Int)<(c.length:Int)):=Zm;clear p l;go_wp2;refine bodyPost_ret (v:=.agg (gW ⟨1,c,b,b+c.length,0,0⟩)) (by simp[results,results80,go_sem]) rfl ⟨by rw[h.w],(ao [] k).H _⟩
  |false=>
   cases t:(o||e)with
   |true=>
    obtain⟨O,q⟩:=a1.w.2;have M:c=m::O:=by rw[u.w,Y9 (by simpa using t)];exact q
    have a7:Mar.ge c=hT (if e then c.tail else c) e:=by
     cases e with
     |true=>rw[M,a9.w rfl];exact Xb O
     |false=>rw[M];exact Xd (b1.w.2.trans (by simpa using t))
    have J:(⟨c.toArray⟩:Za).extract 1 c.length=⟨c.tail.toArray⟩:=by
     have i:=Qu c 1;rw[List.drop_one]at i;exact i
    have e0:(1:Int)<=(c.length:Int):=by rw[M];simp;omega
    have n:=Xe (if e then c.tail else c) e (by split<;>(try simp)<;>omega)
    have l:af (hQ a f=match hT (if e then c.tail else c) e with|some N=>⟨3,c,b,b+c.length,N,0⟩|none=>⟨5,[],b,0,0,4⟩):=by
     show _=_;rw[r.w];have g:=u.w;rw[Y9 (by simpa using t)]at g;rw[Y2 Zq,Y9 t,<-g];unfold Mar.gQ;rw[a7];cases hT (if e then c.tail else c) e<;>rfl
    clear a7 M r u q;cases q:hT (if e then c.tail else c) e with
    |none=>
     rw[q]at n;have h:af (hQ a f=⟨5,[],b,0,0,4⟩):=by show _=_;rw[l.w,q]
     replace n:=aa n;clear q l;have c3:(none:Option Int).isSome=false:=rfl;cases e<;>cases o<;>(try cases t)<;>(go_wp2_with (refine(n.w _).mono ?_;rintro i s ⟨rfl,N,rfl,L⟩;clear n L);exact bodyPost_ret (v:=.agg (gW ⟨5,[],b,0,0,4⟩)) (by simp[results,results80,go_sem]) rfl ⟨by rw[h.w],(ao [] k).H _⟩)
    |some v=>
     rw[q]at n;have h:af (hQ a f=⟨3,c,b,b+c.length,v,0⟩):=by show _=_;rw[l.w,q]
     replace n:=aa n;clear q l;have c3:∀d0:Int,(some d0).isSome=true:=λ_=>rfl;cases e<;>cases o<;>(try cases t)<;>(go_wp2_with (refine(n.w _).mono ?_;rintro i s ⟨rfl,N,rfl,L⟩;obtain rfl:=L v rfl;clear n L);exact bodyPost_ret (v:=.agg (gW ⟨3,c,b,b+c.length,N,0⟩)) (by simp[results,results80,go_sem]) rfl ⟨by rw[h.w],(ao [] k).H _⟩)
   |false=>
    obtain⟨rfl,rfl⟩:o=false/\e=false:=by simpa using t
    obtain rfl:c=[m]:=u.w;simp only[List.length_singleton]at hcut c5 c6 ⊢;cases C:Mar.f9 m with
    |true=>
     have h:af (hQ a f=⟨4,[m],b,b+1,0,0⟩):=by show _=_;rw[r.w,C];rfl
     clear r;go_wp2;all_goals
      first
       |(exfalso;have g:=F.w;rw[C]at g;simp only[*, Bool.or_self]at g;done)
       |(exfalso;have g:=F.w;rw[C]at g;simp only[*, Bool.or_self, Bool.true_eq_false, reduceCtorEq]at g;done)
       |exact bodyPost_ret (v:=.agg (gW ⟨4,[m],b,b+1,0,0⟩)) (by simp[results,results80,go_sem]) rfl ⟨by rw[h.w],(ao [] k).H _⟩
    |false=>
     have h:af (hQ a f=⟨5,[],b,0,0,2⟩):=by show _=_;rw[r.w,C];rfl
     have g:=F.w;rw[C]at g;simp only[Bool.false_eq,Bool.or_eq_false_iff]at g;obtain⟨⟨⟨⟨⟨⟨⟨⟨⟨⟨⟨⟨e2,e7⟩,e8⟩,e9⟩,f0⟩,f1⟩,f2⟩,f3⟩,f4⟩,e3⟩,e4⟩,e5⟩,e6⟩:=g;clear r F;go_wp2;refine bodyPost_ret (v:=.agg (gW ⟨5,[],b,0,0,2⟩)) (by simp[results,results80,go_sem]) rfl ⟨by rw[h.w],(ao [] k).H _⟩
 .have h:af (hQ a f=⟨0,[],a.length,a.length,0,0⟩):=by
   show _=_;rw[E,show b=a.length by omega,List.drop_length];rfl
  obtain rfl:b=a.length:=Zm;clear E;go_in;go_wp21;refine(H.w _).mono ?_;rintro i s ⟨rfl,rfl⟩;go_wp2;refine bodyPost_ret (v:=.agg (gW ⟨0,[],a.length,a.length,0,0⟩)) (by simp[results,results80,go_sem]) rfl ⟨by rw[h.w],(ao [] k).H _⟩
section
variable {A:Ad}{e g:Nat}{f c:List Nat}{l:List (Int×Int)}{b:List (Zb×Nat×Int)}{a:Zb×Nat}{h:Zv}{u w:Zw}{d i j:St}
def Dp(w:Zw)(e:Nat):Nat:=match w.cell? (Zd e 2)with
 |some (.slice _ a _)=>a
 |_=>0
theorem TM:(prog.info? 223).map (λa=>(a.zero,a.size,a.bytes))=some (some (.pointer none),1,8):=Zk
theorem ni.cS{m}(k:ni A m w e g a b c f l h d u):∃ad i,h=.slice ad b.length i:=by
 rcases k.row.2 with⟨rfl,j⟩|⟨o,i,n,rfl,_⟩
 .exact⟨none,0,by rw[j]⟩
 .exact⟨_,_,rfl⟩
theorem Vm{b}(j:fW b A){c}(a:Nat)(i:Rd b c d w)(m:dK b g)(k:dH g l w) :
  Calls prog 193 #[Zp A.R,U a,.map (some g)] w (BR [A.R,A.S,A.N,g] b c w g (jz c a l d)):=by
 obtain⟨e,f,h,n⟩:=j;rw[<-e,<-f,<-h];exact Vl a i m k
theorem Vn{f a}{g:List (Int×Int)}{h:Zb×Nat×Int}(b:jz f a l d=.ok (h,g,i)):a<12:=by
 rcases Yj a 12 with c|c
 .exact c
 .exfalso;unfold jz at b;cases e:hA f d with
  |error n=>rw[bR (cZ e)]at b;cases b
  |ok j=>
   obtain⟨k,m⟩:=j;rw[bf (bF e),bR (cZ (show ft a 12 k.y m=_ from Y9 c))]at b;cases b
theorem Ip{a f}{c d:Zv}{ad b}(g:u.heap[e]? = some (.cells #[c,d,.slice ad a f] b)):Dp u e=a:=by
 obtain⟨_,_,h,_⟩:=fq g;unfold Dp;rw[h]
theorem ni.b3{n o}(s:Rd A n j w)(k:ni A n w e g a b c f l h d u)(m:an [A.S] u o)(p:Rd (A.aw f) n i o) :
  ni A n w e g a b c f l h i o:=by
 obtain⟨v,x,y,z⟩:=s.lt;have B:=k.aB _ k.az.1;have C:=k.aB _ k.az.2.1;refine⟨k.kp.u (m.ak Zq),p,k.az,k.aB,k.aR.ac m Zx,(m.L _ (au k.ap) Zx).trans k.ap,bw k.row m ?_,k.ae,k.av,k.d7.ac m (by intro D q;simp only[Yc]at q;subst q;exact p.az.2.1)⟩;intro r t;have:=k.aB _ (k.ae r t).1;simp;omega
theorem ni.fin{t}(s:Rd A t j w)(m:ni A t w e g a b c f l h d u)(P:b.length<=12)
  {F:Except Mar.ay (aC×St)} (D:F=.ok (.enum a.1 a.2 b,d)):it [A.R,A.S,A.N] A t w F (.returned (Zp e)) u:=by
 have y:∀q,w.heap.size<=q->q ∉ A.X:=λq L J=>by have:=s.a3 _ J;omega
 have E:bW A.X ((c.zip b).map λi=>(i.1,nD i.2)) u:=m.d7.bE (λa0 K=>Ym _ K);have z:u.heap[e]? = some (.cells #[.string ⟨a.1.toArray⟩,U a.2,h] 253)/\e ∉ A.X:=⟨m.ap,y _ (m.aB _ m.az.1)⟩;have B:∀k (o:k<b.length) (p:k<c.length),(c[k],nD b[k])∈((c.zip b).map λi=>(i.1,nD i.2)):=by
  intro k o p;rw[YE];exact⟨(c[k],b[k]),by rw[List.mem_iff_getElem];exact⟨k,Zx,Zq⟩,rfl⟩
 refine⟨m.kp,Y8 ⟨.enum a.1 a.2 b,d,e,?_⟩⟩;rcases m.row.2 with⟨rfl,o⟩|⟨r,v,x,rfl,G,H,I,M,O,C⟩
 .refine⟨(e,.cells #[.string ⟨a.1.toArray⟩,U a.2,.slice none 0 0] 253)::((c.zip b).map λi=>(i.1,nD i.2)),D,rfl,mx s.az m.rd,⟨.slice none 0 0,c,Yb,m.av,Y8 ⟨rfl,o,?_⟩,λk o p=>Y5 _ (B k o p)⟩,?_⟩
  .have:c=[]:=Yv.1 (by rw[m.av,o]);rw[this];rfl
  .intro i n;rcases Yg.1 n with rfl|n
   .exact z
   .exact E i n
 .refine⟨(e,.cells #[.string ⟨a.1.toArray⟩,U a.2,.slice (some ⟨r,0,none⟩) b.length v] 253)::(r,.cells x 223)::((c.zip b).map λi=>(i.1,nD i.2)),D,rfl,mx s.az m.rd,⟨_,c,Yb,m.av,Ya ⟨r,v,x,rfl,⟨I,Zm⟩,Zq,?_⟩,λk o p=>Y5 _ (Y5 _ (B k o p))⟩,?_⟩
  .rw[Nat.mul_one]at C;rw[YU,m.av];exact C
  .intro i n;rcases Yg.1 n with rfl|n
   .exact z
   .rcases Yg.1 n with rfl|n
    .exact⟨H,y _ G⟩
    .exact E i n
theorem RO{g}(r:Nat)(t:Rd A g d w) :
  Calls prog 121 #[Zp A.R,U r] w (it [A.R,A.S,A.N] A g w (ik g r d)):=by
 have i9:=je;have j0:=mS;go_in;go_wp21;refine(AC r t).mono ?_;rintro x k0 ⟨a9,⟨u,k4,D,rfl,d6⟩|⟨p,D,k,m,rfl,n⟩⟩;rotate_left
 .exact aE (eI (a9.ak Zq) (ao [] _) (bO D) m n)
 have P:=a9.ak (M':=[A.R,A.S,A.N]) Zq;clear a9;go_wp21;refine(yg d6).mono ?_;rintro x B ⟨b0,⟨a,k5,J,rfl,b4⟩|⟨p,J,k,m,rfl,n⟩⟩;rotate_left
 .exact aE (eI (P.u (b0.ak Zq)) P ((aK D).trans (bO J)) m n)
 have a5:=P.u (b0.ak (M':=[A.R,A.S,A.N]) Zq);clear b0 P;dsimp only[il];have c4:=b4.a3;have i8:=b4.lt.2.1;have d7:=b4.ae (.cells #[.string ⟨a.1.toArray⟩,U a.2,.slice none 0 0] 253);have b5:=aQ (w:=B) (o:=.cells #[.string ⟨a.1.toArray⟩,U a.2,.slice none 0 0] 253) rfl;have a0:=a5.H (.cells #[.string ⟨a.1.toArray⟩,U a.2,.slice none 0 0] 253);have g7:B.heap.size ∉ [A.S]:=Zg;go_wp21;refine(gS (fX A _) _ d7).mono ?_;rintro x q ⟨a1,⟨k1,e3,a2,rfl,d8⟩|⟨p,a2,k,m,rfl,n⟩⟩;rotate_left
 .exact aE (eI (a0.u (a1.ak Zq)) a0 ((aK D).trans ((aK J).trans (bO a2))) m n)
 have b6:=(a1.L _ (au b5) g7).trans b5;have g4:=au b6;have c3:=a0.u (a1.ak (M':=[A.R,A.S,A.N]) Zq);have c2:ik g r d=iB g a 13 [] [] e3:=(aK D).trans ((aK J).trans (aK a2));have d2:ni A g w B.heap.size q.heap.size a [] [] [q.heap.size,B.heap.size] [] (.slice none 0 0) e3 (q.alloc (.map #[] 0)):=by
  have g1:an [] q (q.alloc (.map #[] 0)):=(ao [] q).H _;refine⟨c3.H _,d8.ae _,⟨Zq,Zq,Zm⟩,?_,aQ (w:=q) rfl,(g1.L _ g4 Zq).trans b6,⟨rfl,Y8 ⟨rfl,rfl⟩⟩,(by intro y G;cases G),rfl,(by intro j8 g8;cases g8)⟩;intro L j4;have j9:=a5.aD;grind
 have f1:=aa d2;have e9:=aa c2;have i3:=aa c4;clear a1 b5 a0 d7 d2 c2 b6 c3 d8 D J a2 d6 a5 c4;go_wp2;go_loopw [7] (λk u=>∃(L:Bool) (b:List (Zb×Nat×Int)) (c f:List Nat) (l:List (Int×Int)) (h:Zv) (i:St),k=.bool L/\b.length<=12/\af (ni A g w B.heap.size q.heap.size a b c f l h i u)/\
   af (ik g r d=(if L then iB g a (13-b.length) b l else ot g a b) i)) (λ_ u=>13-Dp u B.heap.size)
 case atStart=>grind
 case round=>
  obtain⟨L,b,c,f,l,h,i,rfl,g5,e,M⟩:=hrel;clear f1 e9;cases L with
  |false=>
   go_wp21;refine(gS (du A f) _ e.w.rd).mono ?_;rintro x j ⟨o,⟨k2,i1,s,rfl,I⟩|⟨p,s,k,m,rfl,n⟩⟩;rotate_left
   .exact aE (eI (e.w.kp.u (o.ak Zq)) e.w.kp (M.w.trans (bO s)) m n)
   have O:=aa (e.w.b3 t o I);clear o I;go_wp21;refine(gS (du A f) _ O.w.rd).mono ?_;rintro x E ⟨b2,⟨k3,k6,b7,rfl,d9⟩|⟨p,b7,k,m,rfl,n⟩⟩;rotate_left
   .exact aE (eI (O.w.kp.u (b2.ak Zq)) O.w.kp (M.w.trans ((aK s).trans (bO b7))) m n)
   have C:=aa (O.w.b3 t b2 d9);clear b2 d9;go_wp2;go_ret;exact C.w.fin t g5 (M.w.trans ((aK s).trans (aK b7)))
  |true=>
   obtain⟨ad,F,rfl⟩:=e.w.cS;obtain⟨j5,j6,j7,i7⟩:=fq e.w.ap;have c7:Below wr.heap.size wr wr.drew:=(Below.refl ..).drew;have e8:=aa (Vm (du A f) b.length (e.w.rd.ah c7) (e.w.bk t) ((c7.block _ (au e.w.aR)).trans e.w.aR));have i2:af (13-b.length=(12-b.length)+1):=by show _=_;omega
   have a4:af (ik g r d=iB g a ((12-b.length)+1) b l i):=by
    grind
   clear M;have c9:∀(p:Mar.ay) (k:Nat) (a3:Zw),jz g b.length l i=.error p->wr.heap.size<=k->an [A.R,A.S,A.N,q.heap.size] wr.drew a3->a3.heap[k]? = some (.cells #[U p.no,U p.y] 179)->
     it [A.R,A.S,A.N] A g w (ik g r d) (.panicked [{ v:=.iface 143 (Zp k),recovered:=false }]) a3:=by
    intro p k a3 f7 f5 g0 f6;have j3:=e.w.aB _ e.w.az.2.1;refine eI (e.w.kp.b1 (((ao _ wr).aU).u g0) ?_) e.w.kp (a4.w.trans (tj f7)) f5 f6;simp_all
   have f0:=aa c9;have g9:∀y,(Value.slice ad b.length F).ownBlock=some y->y ∉ [A.R,A.S,A.N,q.heap.size]:=by
    intro y G;have c0:=e.w.ae y G;have f4:=e.w.aB _ c0.1;obtain⟨h0,h1,h2,h3⟩:=t.lt;grind
   have a6:∀j,an [A.R,A.S,A.N,q.heap.size] wr.drew j->(∀z,(j.alloc z).ownsRow w.heap.size 223 1 (.slice ad b.length F) b.length (c.map λk=>Zp k))/\
     j.heap[B.heap.size]? = some (.cells #[.string ⟨a.1.toArray⟩,U a.2,.slice ad b.length F] 253)/\w.heap.size<=j.heap.size:=by
    intro j o;have b1:=((ao _ wr).aU).u o;have c0:=e.w.aB _ e.w.az.1;obtain⟨h0,h1,h2,h3⟩:=t.lt;have f4:=e.w.az.2.2;refine⟨λz=>bw (bw e.w.row b1 g9) ((ao [] j).H z) Zq,(b1.L _ (au e.w.ap) Zg).trans e.w.ap,Yz e.w.kp.aD b1.aD⟩
   have e6:=aa a6;have c6:∀j z E,an [A.R,A.S,A.N,q.heap.size] wr.drew j->(j.alloc z).grownBy E (Value.slice ad b.length F).ownBlock->E.heap[B.heap.size]? = some (.cells #[.string ⟨a.1.toArray⟩,U a.2,.slice ad b.length F] 253):=by
    intro j z E o G;obtain⟨_,c1,_⟩:=a6 j o;have g2:=au c1;exact(G.block _ Zx (λx=>(e.w.ae _ x.symm).2.1 rfl)).trans ((((ao [] j).H z).L _ g2 Zq).trans c1)
   have e7:=aa c6;have g3:(b.length+1)*8<=140737488355328:=Zm;clear c9 a6 c6;go_wp21;go_region_law (first
    |(go_simp;go_at_call 193;refine e8.w.mono ?_;rintro x j ⟨o,⟨K,e1,i1,k,s,rfl,I,d3,d0⟩|⟨p,s,k,m,rfl,n⟩⟩;rotate_left;exact(show bodyPost prog Tryz.f121 (it [A.R,A.S,A.N] A g w (ik g r d)) (Exit.panic _) _ j from aE (f0.w p k j s m o n));dsimp only;obtain⟨d4,a7,j2⟩:=e6.w j o;obtain⟨h5,h6,h7,f8⟩:=fq a7;have g6:=au a7;have j1:=Nat.ne_of_lt g6)
    |(refine mC TM underlying251 (d4 _) [.pointer (some ⟨k,0,none⟩)] (heap_alloc_new j _) Zy g3 Zx (H:=j.heap.size+1) Zq ?_;intro y i5 E d5 a8 c5 d1;have c8:=e7.w j _ E o a8;obtain⟨h8,h9,i0,f9⟩:=fq c8))
   all_goals
    have i6:=Vn s
    have C:=aa (Ny t e.w (((ao _ wr).aU).u o) I d3 d0 ((Below.refl j.heap.size j).alloc (Y4 _) _) d5 a8 (by simpa using c5) d1)
    clear o I d3 d0 d5 a8 c5 d1 c8 h8 h9 i0 f9 a7 h5 h6 h7 f8 d4
    go_wp21
    refine(rx (du A (y::f)) _ C.w.rd).mono ?_
    rintro x h4 ⟨b3,⟨e2,e4,b8,rfl,e0⟩|⟨p,b8,i4,m,rfl,n⟩⟩
    rotate_left
    .exact(show bodyPost prog Tryz.f121 (it [A.R,A.S,A.N] A g w (ik g r d)) (Exit.panic _) _ h4 from aE (eI (C.w.kp.u (b3.ak Zq)) C.w.kp (a4.w.trans ((rW s).trans (bO b8))) m n))
    have b9:=aa (C.w.b3 t b3 e0)
    have e5:af (ik g r d=(if e2=true then iB g a (13-(b++[K]).length) (b++[K]) e1 else ot g a (b++[K])) e4):=by
     refine a4.w.trans ((rW s).trans ((aK b8).trans ?_));have:13-(b++[K]).length=12-b.length:=Zq;rw[this]
    have f2:=Ip e.w.ap
    have f3:=Ip b9.w.ap
    clear b3 e0
    go_wp2
    refine⟨⟨e2,b++[K],c++[k],y::f,e1,_,e4,rfl,Zx,b9,e5⟩,?_⟩
    rw[f2,f3]
    omega
end
section
variable {b:Ad}{c:Zw}{a:St}{d:Type}
def nj(b:Ad)(c:Zw)(j:List Nat->d->St->Zw->Prop)(g:Except Mar.ay (Unit×d×St))(f:Ending)(e:Zw):Prop:=
 (∃k h i,g=.ok ((),h,i)/\f=.returned (.tuple #[])/\j k h i e)\/(∃a,g=.error a/\an [b.R,b.S,b.N] c e/\fm c a.no a.y f e)
def pR{M' w1 e h}{g:Except Mar.ay (Unit×d×St)}{f}{a:Nat}
  (k:an [b.R,b.S,b.N] c e) (l:an M' c w1) (m:g=.error f) (i:w1.heap.size<=a) (j:e.heap[a]? = some (.cells #[U f.no,U f.y] 179)) :
  nj b c h g (.panicked [{ v:=.iface 143 (Zp a),recovered:=false }]) e:=
 Ya ⟨f,m,k,a,Yz l.aD i,rfl,j⟩
structure zj(d:Type)(b:Ad)(text:Za)(c:Zw)(pt:Nat) where
 f:Nat
 jN:Array Zv
 bb:PX d Unit
 J:Nat->List Nat->d->St->Zw->Prop
 d1:∀(args:Array Zv) (u:Zw),(callFunc f args).run prog u=.ok (.enter f args) u
 rd:∀{n Y t a u},J n Y t a u->Rd (b.aw Y) text a u
 kp:∀{n Y t a u},J n Y t a u->an [b.R,b.S,b.N] c u
 b3:∀{n Y t a σ' u u'},J n Y t a u->an [b.S] u u'->Rd (b.aw Y) text σ' u'->J n Y t σ' u'
 call:∀{n Y t a u},n<pt->J n Y t a u->Calls prog f jN u (nj b c (J (n+1)) (bb t a))
def jQ(b:Za)(pt:Nat)(run:PX d Unit):Nat->Nat->PX d Unit
 |0,_=>lift (gU 0 0)
 |k+1,a=>aP (if a=0 then dA false else lift (eu b [125])) λe=>if e then dA ()else
   aP (lift (hA b)) λc=>aP (lift (ft a pt c.y)) λ_=>aP run λ_=>jQ b pt run k (a+1)
def fp(a:Za)(pt:Nat)(run:PX d Unit):PX d Unit:=aP (lift (cI a Jv)) λ_=>jQ a pt run (pt+2) 0
def DS{d}(h:fW d b){e}(g:Rd d e a c) :
  Calls prog 72 #[Zp b.S] c (eR [b.S] d e c (hA e a) dx):=by
 obtain⟨i,f,j,k⟩:=h;rw[<-f];exact DT g
def qm(b:Za)(pt:Nat)(run:PX d Unit)(c a:Nat):PX d Unit:=
 aP (lift (hA b)) λe=>aP (lift (ft a pt e.y)) λ_=>aP run λ_=>jQ b pt run c (a+1)
def Cs{h}(pt:Nat)(e:zj d b h c pt){i g j}(c2:pt<=1000)(E:e.J 0 i g a j) :
  Calls prog 195 #[Zp b.R,U pt,.func (.func e.f) #[] e.jN] j (nj b c (λi g a j=>∃f≤pt,e.J f i g a j) (fp h pt e.bb g a)):=by
 have c0:=e.d1;have c1:=Hy;go_in;go_wp21;refine(gS (du b i) _ (e.rd E)).mono ?_;rintro o c3 ⟨a1,⟨c4,b6,K,rfl,b3⟩|⟨p,K,n,k,rfl,l⟩⟩;rotate_left
 .exact aE (pR ((e.kp E).u (a1.ak Zq)) (e.kp E) (bR (cZ K)) k l)
 have b9:=aa (e.b3 E a1 b3);have b8:af (fp h pt e.bb g a=jQ h pt e.bb (pt+2) 0 g b6):=bf (bF K);dsimp only[dx];go_wp2;go_loopw [6] (λL b5=>∃(f:Nat) (x:List Nat) (s:d) (C:St),L=U f/\f<=pt/\af (e.J f x s C b5)/\af (fp h pt e.bb g a=jQ h pt e.bb (pt+2-f) f s C)) (λL _=>pt+1-(intOf L).toNat)
 case atStart=>grind
 case round=>
  obtain⟨f,x,s,C,rfl,b2,v,b7⟩:=hrel;have F:af (fp h pt e.bb g a=jQ h pt e.bb ((pt+1-f)+1) f s C):=by
   grind
  by_cases a0:f=0
  .have b0:wr.cell? (Zd b.R 0)=some (Zp b.S):=(e.rd v.w).al.1;have D:af (fp h pt e.bb g a=qm h pt e.bb (pt+1-f) f s C):=by
    refine F.w.trans ?_;simp only[jQ,Y9 a0];rfl
   have JA:=v;have b1:((f:Int)==0)=true:=Zg;go_wp21;refine(DS (du b x) (e.rd JA.w)).mono ?_;rintro o N ⟨z,⟨t,u,m,rfl,J⟩|⟨p,m,n,k,rfl,l⟩⟩;rotate_left
   .exact(show bodyPost prog Tryz.f195 (nj b c (λi g a j=>∃f≤pt,e.J f i g a j) (fp h pt e.bb g a)) (Exit.panic _) _ N from aE (pR ((e.kp JA.w).u (z.ak Zq)) (e.kp JA.w) (D.w.trans (bR (cZ m))) k l))
   have q:=aa (e.b3 JA.w z J);dsimp only[dx];go_wp21;by_cases y:pt<=f
   .refine(uV _ _ _ _ Zm).mono ?_;rintro o B ⟨⟨n,k,rfl,l⟩,H⟩;exact(show bodyPost prog Tryz.f195 (nj b c (λi g a j=>∃f≤pt,e.J f i g a j) (fp h pt e.bb g a)) (Exit.panic _) _ B from aE (pR (f:=⟨5,t.y⟩) ((e.kp q.w).u (bT _ H)) (e.kp q.w) (D.w.trans ((bf (bF m)).trans (bR (cZ (show ft f pt t.y u=_ from Y9 y))))) k l))
   have A:ft f pt t.y u=.ok ((),u):=Y2 y;refine(uW _ _ _ _ Zm).mono ?_;rintro o B ⟨rfl,rfl⟩;go_wp21;refine(e.call Zm q.w).mono ?_;rintro o O (⟨a9,M,P,r,rfl,G⟩|⟨p,r,I,n,k,rfl,l⟩);rotate_left
   .exact(show bodyPost prog Tryz.f195 (nj b c (λi g a j=>∃f≤pt,e.J f i g a j) (fp h pt e.bb g a)) (Exit.panic _) _ O from aE (Ya ⟨p,D.w.trans ((bf (bF m)).trans ((bf (bF A)).trans (bR r))),I,n,k,rfl,l⟩))
   have a8:=aa G;have a7:af (fp h pt e.bb g a=jQ h pt e.bb (pt+2-(f+1)) (f+1) M P):=by
    refine D.w.trans ((bf (bF m)).trans ((bf (bF A)).trans ((bf r).trans ?_)));simp
   go_wp2;grind [intOf]
  .have b1:((f:Int)==0)=false:=Zu;go_wp21;refine(rx (du b x) _ (e.rd v.w)).mono ?_;rintro o a4 ⟨a2,⟨a5,a6,a3,rfl,b4⟩|⟨p,a3,n,k,rfl,l⟩⟩;rotate_left
   .refine(show bodyPost prog Tryz.f195 (nj b c (λi g a j=>∃f≤pt,e.J f i g a j) (fp h pt e.bb g a)) (Exit.panic _) _ a4 from aE (pR ((e.kp v.w).u (a2.ak Zq)) (e.kp v.w) (F.w.trans ?_) k l));simp_all[jQ,bR,cZ]
   have JB:=aa (e.b3 v.w a2 b4);have w:af (fp h pt e.bb g a=(if a5=true then dA ()else qm h pt e.bb (pt+1-f) f) s a6):=by
    refine F.w.trans ?_;simp only[jQ,Y2 a0];exact bf (bF a3)
   have b0:a4.cell? (Zd b.R 0)=some (Zp b.S):=(e.rd JB.w).al.1;cases a5 with
   |true=>
    go_wp2;go_end0;exact Y8 ⟨_,s,a6,w.w,rfl,f,b2,JB.w⟩
   |false=>
    go_wp21;refine(DS (du b x) (e.rd JB.w)).mono ?_;rintro o N ⟨z,⟨t,u,m,rfl,J⟩|⟨p,m,n,k,rfl,l⟩⟩;rotate_left
    .exact(show bodyPost prog Tryz.f195 (nj b c (λi g a j=>∃f≤pt,e.J f i g a j) (fp h pt e.bb g a)) (Exit.panic _) _ N from aE (pR ((e.kp JB.w).u (z.ak Zq)) (e.kp JB.w) (w.w.trans (bR (cZ m))) k l))
    have q:=aa (e.b3 JB.w z J);dsimp only[dx];go_wp21;by_cases y:pt<=f
    .refine(uV _ _ _ _ Zm).mono ?_;rintro o B ⟨⟨n,k,rfl,l⟩,H⟩;exact(show bodyPost prog Tryz.f195 (nj b c (λi g a j=>∃f≤pt,e.J f i g a j) (fp h pt e.bb g a)) (Exit.panic _) _ B from aE (pR (f:=⟨5,t.y⟩) ((e.kp q.w).u (bT _ H)) (e.kp q.w) (w.w.trans ((bf (bF m)).trans (bR (cZ (show ft f pt t.y u=_ from Y9 y))))) k l))
    have A:ft f pt t.y u=.ok ((),u):=Y2 y;refine(uW _ _ _ _ Zm).mono ?_;rintro o B ⟨rfl,rfl⟩;go_wp21;refine(e.call Zm q.w).mono ?_;rintro o O (⟨a9,M,P,r,rfl,G⟩|⟨p,r,I,n,k,rfl,l⟩);rotate_left
    .exact(show bodyPost prog Tryz.f195 (nj b c (λi g a j=>∃f≤pt,e.J f i g a j) (fp h pt e.bb g a)) (Exit.panic _) _ O from aE (Ya ⟨p,w.w.trans ((bf (bF m)).trans ((bf (bF A)).trans (bR r))),I,n,k,rfl,l⟩))
    have a8:=aa G;have a7:af (fp h pt e.bb g a=jQ h pt e.bb (pt+2-(f+1)) (f+1) M P):=by
     refine w.w.trans ((bf (bF m)).trans ((bf (bF A)).trans ((bf r).trans ?_)));simp
    go_wp2;grind [intOf]
end
def zv(w:Zw):Calls prog 194 #[] w λd c=>∃b a,d=.returned (bA b a).v/\w.heap.size<=b/\w.heap.size<=a/\b≠a/\(bA b a).I [] c/\Below w.heap.size w c/\c.heap[a]? = some (.cells #[.map (some b)] 103):=by
 have h:=mS;have g:=je;go_in;go_wp2;go_ret;have e:(w.alloc (.map #[] 0)).heap.size=w.heap.size+1:=Zq;refine⟨w.heap.size,w.heap.size+1,rfl,Zm,Zm,Zm,?_,((Below.refl w.heap.size w).alloc (Y4 _) _).alloc Zm _,?_⟩
 .have f:((w.alloc (.map #[] 0)).alloc (.cells #[.map (some w.heap.size)] 103)).heap[w.heap.size]? = some (.map #[] 0):=
   (((ao [] (w.alloc (.map #[] 0))).H _).L _ Zm Zq).trans (aQ (w:=w) rfl)
  exact⟨Zq,[],rfl,f⟩
 .rw[<-e];exact aQ (w:=w.alloc (.map #[] 0)) rfl
section
variable {c:Ad}{f:List Nat}{h:List aW}{n:Zb×Nat}{k:Zv}{l:Zc}{e j:Zw}{m o p:St}
structure fe where
 D:Nat
 rb:Nat
 db:Nat
 cb:Nat
 q:Nat
 bx:Nat
def fe.a6(a:fe):List Nat:=[a.D,a.rb,a.db,a.cb,a.q]
structure nr(c:Ad)(text:Za)(j:Zw)(a:fe)(n:Zb×Nat)(h:List aW)(f:List Nat)(l:Zc)(k:Zv)(m:St)(e:Zw):Prop where
 kp:an [c.R,c.S,c.N] j e
 rd:Rd (c.aw f) text m e
 az:∀b∈a.a6,b∈f
 nd:a.a6.Nodup
 aB:∀y∈f,j.heap.size<=y
 ae:∀g,k.ownBlock=some g->g∈f/\g ∉ a.a6
 a5:eC a.q l e
 cl:bW (c.aw f).X (bA a.q a.bx).bs e
 ap:e.heap[a.D]? = some (.cells #[.string ⟨n.1.toArray⟩,U n.2,k] 353)
 vr:e.heap[a.rb]? = some (.cells #[Zp c.R] 145)
 vd:e.heap[a.db]? = some (.cells #[Zp a.D] 229)
 vc:e.heap[a.cb]? = some (.cells #[(bA a.q a.bx).v] 341)
 row:e.ownsRow j.heap.size 242 3 k h.length (h.flatMap mJ)
def nr.b3{g r i}(v:Rd c g p j)(a:nr c g j i n h f l k m e)(b:an [c.S] e r)(s:Rd (c.aw f) g o r) :
  nr c g j i n h f l k o r:=by
 obtain⟨y,z,A,B⟩:=v.lt;have d:∀q∈i.a6,q ∉ [c.S]:=λq w=>by have:=a.aB _ (a.az q w);grind
 refine⟨a.kp.u (b.ak Zq),s,a.az,a.nd,a.aB,a.ae,a.a5.ac b (d _ (by simp[fe.a6])),a.cl.ac b (by intro C t;simp only[Yc]at t;subst t;exact s.az.2.1),(b.L _ (au a.ap) (d _ (by simp[fe.a6]))).trans a.ap,
  (b.L _ (au a.vr) (d _ (by simp[fe.a6]))).trans a.vr,(b.L _ (au a.vd) (d _ (by simp[fe.a6]))).trans a.vd,(b.L _ (au a.vc) (d _ (by simp[fe.a6]))).trans a.vc,bw a.row b ?_⟩
 intro u x;have:=a.aB _ (a.ae u x).1;grind
theorem OC{C}{w E t:Zw}{b}{g x:Nat}{a4 d}(F:Rd c C p j)
  (s:nr c C j b n h f l k m e) (z:an [c.S,b.q] e w) (R:Rd (c.aw f) C o w) (b0:eC b.q a4 w) (r:Below w.heap.size w E)
  (O:t.ownsRow j.heap.size 242 3 (.slice (some ⟨g,0,none⟩) (h.length+1) x) (h.length+1) (h.flatMap mJ++mJ d))
  (y:E.grownBy t k.ownBlock) (G:k.ownBlock=some g\/g=E.heap.size) (a9:g<t.heap.size) :
  nr c C j b n (h++[d]) (g::f) a4 (.slice (some ⟨g,0,none⟩) (h.length+1) x) o (t.setCell ⟨b.D,2,none⟩ (.slice (some ⟨g,0,none⟩) (h.length+1) x)):=by
 obtain⟨b9,_⟩:=hR O (g:=g) rfl;have B:b.D∈b.a6:=by simp[fe.a6]
 have b4:b.rb∈b.a6:=by simp[fe.a6]
 have b3:b.db∈b.a6:=by simp[fe.a6]
 have b2:b.cb∈b.a6:=by simp[fe.a6]
 have a1:b.q∈b.a6:=by simp[fe.a6]
 have b1:=s.nd;simp only[fe.a6,List.nodup_cons,Yg,List.not_mem_nil,or_false,not_or]at b1;have a6:∀a∈b.a6,j.heap.size<=a:=λa r=>s.aB _ (s.az a r);have M:∀a∈b.a6,a<e.heap.size:=λa r=>by
  have:=s.rd.a3 a (Yf _ (s.az a r));omega
 have c0:=z.aD;have c1:=r.size;have c2:=y.size;have b6:g ∉ b.a6:=by
  rcases G with K|K
  .exact(s.ae g K).2
  grind
 have a0:∀a,k.ownBlock=some a->j.heap.size<=a/\a∈(c.aw f).X:=λa r=>⟨s.aB _ (s.ae a r).1,Yf _ (s.ae a r).1⟩;have H:=gt y;have v:an [b.D] t (t.setCell ⟨b.D,2,none⟩ (.slice (some ⟨g,0,none⟩) (h.length+1) x)):=(ao [b.D] t).aH Zq _;have A:an [] w E:=bT _ r;obtain⟨c3,c4,c5,c6⟩:=F.lt;have a3:∀a∈b.a6,a ∉ k.ownBlock.toList:=by
  intro a r N;exact(s.ae a Zu).2 r
 have a5:∀a∈b.a6,a≠b.q->t.heap[a]? = e.heap[a]?:=by
  intro a r P;have L:=M a r;have b7:=a6 a r;exact(H.L _ Zm (a3 a r)).trans ((A.L _ Zm Zq).trans (z.L _ L Zg))
 have J:∀a∈b.a6,a≠b.q->a≠b.D->(t.setCell ⟨b.D,2,none⟩ (.slice (some ⟨g,0,none⟩) (h.length+1) x)).heap[a]? = e.heap[a]?:=by
  intro a r P b8;have L:=M a r;exact(v.L _ Zm Zu).trans (a5 a r P)
 have a8:∀a2∈[c.S,b.q],a2∈(c.aw f).X:=by
  intro a7 u;simp at u;rcases u with rfl|rfl
  .exact R.az.2.1
  .exact Yf _ (s.az _ a1)
 refine⟨?_,?_,λa r=>Y5 _ (s.az a r),s.nd,?_,?_,?_,?_,?_,?_,?_,?_,?_⟩
 .refine(((s.kp.b1 z ?_).b1 A Zq).b1 H ?_).b1 v ?_
  .intro a2 N;simp at N ⊢;grind
  .grind
  grind
 .exact F.b1 (du c (g::f)) (vG F (du c f) (R.ah r) y a0 G a9) v (by
   intro a7 u;simp only[Yc]at u;subst u;exact⟨a6 _ B,Yf _ (Y5 _ (s.az _ B))⟩)
 .intro b5 I;rcases Yg.1 I with rfl|I
  .omega
  .exact s.aB b5 I
 .grind [Value.ownBlock]
 .exact((b0.ac A Zq).ac H (a3 _ a1)).ac v Zg
 .exact(((s.cl.ac z a8).ac A Zq).a9 y (λa r=>(a0 a r).2) G).ac v (by
   intro a7 u;simp only[Yc]at u;subst u;exact Y5 _ (Yf _ (s.az _ B)))
 .exact bv (i:=2) ((a5 _ B Zm).trans s.ap) _
 .exact(J _ b4 Zm Zm).trans s.vr
 .exact(J _ b3 Zm Zm).trans s.vd
 .exact(J _ b2 Zm Zm).trans s.vc
 .have:=bw O v (by
   grind [Value.ownBlock])
  simpa using this
end
section
variable {L i c:Nat}
section
variable {d : Program} {a : Array Oper} {Q : Exit -> Act -> Zw -> Prop} {b : Region.Mode} {S : Zw -> Prop}
abbrev rA(d:Program)(a:Array Oper)(Q:Exit->Act->Zw->Prop)(L:Nat):Exit->Act->Zw->Prop:=λg b c=>match g with
 |.normal=>wpOp d a Q L (λe j=>Q .normal e j) b c
 |.exit i=>Q (.exit i) b c
 |.goto h=>Q (.goto h) b c
 |.ret=>Q .ret b c
 |.panic f=>Q (.panic f) b c
 |.outgrown=>Q .outgrown b c
def UD(b:LetsOut (rA d a Q L)):LetsOut Q:=b
def Xq{e:Oper}{c:Act}{f:Zw}{g:Act->Zw->Prop}(b:e.wp d c f g (rA d a Q L)):e.wp d c f g Q:=by
 unfold Oper.wp at *
 generalize (execOp c.eval e).run d f=i at *
 cases i with
 |ok h j=>cases h<;>simp only[Oper.upon]at b ⊢<;>exact b
 |halt k j=>cases k<;>simp only[Oper.upon]at b ⊢<;>exact b
def aeP{e:Act}{f:Zw}{c:Act->Zw->Prop}(b:wpOp d a (rA d a Q L) i c e f):wpOp d a Q i c e f:=by
 unfold wpOp at *
 split
 .simp_all
 .rename_i l j;simp only[j]at b;split
  .rename_i k;simp only[k,if_true]at b
   rcases b with b|⟨g,h⟩
   .exact Y8 (Xq b)
   .exact Ya ⟨g,UD h⟩
  simp_all
def sL(b:Region.Mode)(a:Array Oper):Bool:=(List.range a.size).all λc=>match a[c]? with
 |some e=>e.after.all λd=>!Region.binds b d||decide (d.on<c)
 |none=>true
def un(b:Region.Mode)(a:Array Oper)(L:Nat):Bool:=(List.range L).all λc=>(List.range a.size).any λe=>match a[e]? with
 |some f=>f.after.any λd=>Region.binds b d&&d.on==c
 |none=>false
def Gt(f:sL b a=true){e:Oper}(i:a[c]? = some e){d:_}(h:d∈e.after)(g:Region.binds b d=true):d.on<c:=by
 grind [sL,Array.all_eq_true_iff_forall_mem]
def Qs(f:un b a L=true)(h:c<L):∃g:Nat,∃e:Oper,a[g]? = some e/\∃d∈e.after,Region.binds b d=true/\d.on=c:=by
 simp only[un,List.all_eq_true,List.mem_range]at f;grind
def vo(b:Region.Mode)(a:Array Oper)(e:Array Bool):Prop:=
 ∀c f,a[c]? = some f->e.getD c false=true->∀d∈f.after,Region.binds b d=true->e.getD d.on false=true
theorem vo.b6{d:Array Bool}(g:vo b a d)(n:i∈Region.ready b a d):vo b a (d.setIfInBounds i true):=by
 intro c m l e f j h;refine getD_set_true ?_;by_cases k:i=c
 .grind [mem_ready]
 .rw[getD_set_ne false k]at e;exact g c m l e f j h
def Lv(i:sL b a=true){d:Array Bool}(q:d.size=a.size):∀c,c<a.size->d.getD c true=false->Region.ready b a d≠[]:=by
 intro c;induction c using Nat.strongRecOn with
 |ind c r=>
  intro m k p;by_cases f:∀g,a[c]? = some g->∀e∈g.after,Region.binds b e=true->d.getD e.on false=true
  .have:c∈Region.ready b a d:=mem_ready.2 ⟨k,a[c],by simp,f _ (by simp)⟩;simp_all
  .simp only[Classical.not_forall]at f;obtain⟨g,l,e,j,h,o⟩:=f;have n:=Gt i l j h;grind
def OT(l:sL b a=true)(u:a.size=L+1)(n:un b a L=true){e:Array Bool}(z:e.size=a.size)(m:vo b a e)(r:L∈Region.ready b a e) :
  ∀f c,L-c=f->c<L->e.getD c false=true:=by
 intro f;induction f using Nat.strongRecOn with
 |ind f s=>
  intro c x o;obtain⟨d,t,g,k,i,h,j⟩:=Qs n o;have p:=Gt l g i h;have w:=(Array.getElem?_eq_some_iff.1 g).1;rw[j]at p;by_cases q:d=L
  .subst q;obtain⟨_,A,y,v⟩:=mem_ready.1 r;grind
  .have:=s (L-d) (by omega) d rfl (by omega);rw[<-j];exact m d t g this k i h
def JV(g:sL b a=true)(f:a.size=L+1)(i:un b a L=true){d:Array Bool}(n:d.size=a.size)(h:vo b a d)(m:L∈Region.ready b a d) :
  Region.ready b a (d.setIfInBounds L true)=[]:=by
 cases o:Region.ready b a (d.setIfInBounds L true)with
 |nil=>rfl
 |cons c rest=>
  exfalso;have j:c∈Region.ready b a (d.setIfInBounds L true):=by simp_all
  obtain⟨e,q,l,_⟩:=mem_ready.1 j;have p:=(Array.getElem?_eq_some_iff.1 l).1;by_cases k:L=c
  .simp_all
  .rw[getD_set_ne true k]at e;have:=OT g f i n h m (L-c) c rfl (by omega);simp_all
def aeL(m:sL b a=true)(s:a.size=L+1)(t:un b a L=true):∀(j:Nat) (e:Array Bool) (l:Act) (o:Zw),
  e.size=a.size->vo b a e->e.getD L true=false->wpAnyH d b a (rA d a Q L) S j (e.setIfInBounds L true) l o->wpAny d b a Q (j+1) e l o:=by
 intro j;induction j with
 |zero=>
  intro e l o k n q h;refine⟨λc=>absurd c (Lv m k L (by omega) q),λi f=>?_⟩;by_cases g:i=L
  .subst g;exact wpOp_mono (λp r c=>⟨JV m s t k n f,c⟩) h.2
  .have:=ready_mono f g;rw[h.1]at this;grind
 |succ j v=>
  intro e l o k n q h;refine⟨λc=>absurd c (Lv m k L (by omega) q),λi f=>?_⟩;by_cases g:i=L
  .subst g;have u:=JV m s t k n f;refine wpOp_mono (λp r c=>⟨λ_=>c,?_⟩) (h.1 u);simp_all
  .refine wpOp_mono (λp r c=>?_) (aeP (h.2 i (ready_mono f g)));refine v (e.setIfInBounds i true) p r (by grind) (n.b6 f) (by simp_all) ?_;rw[Array.setIfInBounds_comm _ _ g];exact c.2
def aaa(S:Zw->Prop){id:Nat}{e:Act}{b:Zw}(m:d.follows .mixedOrders=true)(f:a.size=L+1)(j:sL .any a=true)(k:un .any a L=true)(i:S b.drew)
  (g:S b.drew->wpAnyH d .any a (rA d a Q L) S L ((Array.replicate (L+1) false).setIfInBounds L true) e b.drew):(Code.region id a true).wp d Q e b:=by
 refine wp_region_any m ?_;have h:=g i;rw[f];refine aeL j f k L _ e _ (by grind) ?_ (by simp) h;intro c o _ n;exfalso;rcases Yj c (L+1)with l|l;all_goals simp_all
def Ux{f:Oper}{b:Act}{c:Zw}(i:a[L]? = some f)
  (g:∀e:Act->Zw->Prop,Shut (∀b c,Q .normal b c->e b c)->if Region.wanted f (yielded a b.tmps)=true then Oper.wp d f b c e Q else e (b.put f.dst undef) c) :
  rA d a Q L .normal b c:=wpOp_step i (λe h=>g e (λb c j=>h b c j))
def tk{f:Oper}{v:Zv}{l:Nat}{h:Array Bool}{c:Act}{e:Zw}(p:a[i]? = some f)(g:(Region.noSelect a&&Region.free b a h i&&(Region.ready b a h).contains i)=true)
  (n:∀k c e,Q (.panic k) (c.put f.dst v) e->Q (.panic k) c e) (q:Region.wanted f (yielded a c.tmps)=true) (o:S e) (r:∀j,S j->(execOp c.eval f).run d j=.ok (.value v) j)
  (m:wpAnyH d b a Q S l (h.setIfInBounds i true) (c.put f.dst v) e):wpAnyH d b a Q S (l+1) h c e:=by
 simp only[Bool.and_eq_true]at g;exact wpAnyH_take p g.1.1 g.1.2 g.2 n (Y8 ⟨q,r⟩) o m
def afk(c:Zl)(a:List Deferred)(b:Nat)(v:Zv):Act.put ⟨c.toArray,a⟩ (some b) v=⟨(c.set b v).toArray,a⟩:=by simp[Act.put]
def afl(a:Act)(v:Zv):Act.put a none v=a:=rfl
end
end
section
variable {h : Program} {c : Array Oper} {Q : Exit -> Act -> World -> Prop} {g : Region.Mode} {S : World -> Prop} {d : Nat} {j : List Nat} {e : Oper} {v : Value} {i : Nat} {f : Array Bool} {b : Act} {a : World}
def pQ(_:List Nat)(a:Prop):Prop:=a
def bI(j:List Nat){a:Prop}(b:pQ j a):a:=b
def bJ{a:Prop}(b:a):pQ [] a:=b
def tkd(q:c[d]? = some e)(p:(Region.noSelect c&&Region.free g c f d&&(Region.ready g c f).contains d)=true)(n:∀l b a,Q (.panic l) (b.put e.dst v) a->Q (.panic l) b a)(r:Region.wanted e (yielded c b.tmps)=true)(o:S a)(s:∀k,S k->(execOp b.eval e).run h k=.ok (.value v) k)(m:pQ j (wpAnyH h g c Q S i (f.setIfInBounds d true) (b.put e.dst v) a)):pQ (d::j) (wpAnyH h g c Q S (i+1) f b a):=tk q p n r o s m
def skd(p:c[d]? = some e)(k:(Region.noSelect c&&Region.free g c f d&&(Region.ready g c f).contains d)=true)(n:∀l b a,Q (.panic l) (b.put e.dst undef) a->Q (.panic l) b a)(q:Region.wanted e (yielded c b.tmps)=false)(o:S a)(m:pQ j (wpAnyH h g c Q S i (f.setIfInBounds d true) (b.put e.dst undef) a)):pQ (d::j) (wpAnyH h g c Q S (i+1) f b a):=by
 simp only[Bool.and_eq_true]at k;exact wpAnyH_take p k.1.1 k.1.2 k.2 n (Ya ⟨q,rfl⟩) o m
def ZS(d:Nat)(m:Region.ready g c f=[d])(l:c[d]? = some e)
  (k:∀j:Act->World->Prop,Shut (∀b a,S a->(S a->wpAnyH h g c Q S i (f.setIfInBounds d true) b a)->j b a)->if Region.wanted e (yielded c b.tmps)=true then Oper.wp h e b a j Q else j (b.put e.dst undef) a) :
  wpAnyH h g c Q S (i+1) f b a:=wpAnyH_ready m (by simp) (AllReadyH.cons l k AllReadyH.nil)
def QT{j:Nat}{d:Oper}(m:Region.ready g c f=[])(l:c[j]? = some d)
  (k:∀e:Act->World->Prop,Shut (∀b a,Q .normal b a->e b a)->if Region.wanted d (yielded c b.tmps)=true then Oper.wp h d b a e Q else e (b.put d.dst undef) a) :
  wpAnyH h g c (rA h c Q j) S i f b a:=wpAnyH_done m (Ux l k) _
def bK{n:Prop}(k:pQ j n)(s:c[d]? = some e:=by rfl)(r:(Region.noSelect c&&Region.free g c f d&&(Region.ready g c f).contains d)=true:=by kernel_rfl)(w:∀l,S l->(execOp b.eval e).run h l=.ok (.value v) l:=by intro a q;(try dsimp only at q);go_simp;(try with_reducible rfl))(o:∀m b a,Q (.panic m) (b.put e.dst v) a->Q (.panic m) b a:=by exact λ_ _ _ k=>k)(u:Region.wanted e (yielded c b.tmps)=true:=by kernel_rfl)(p:S a:=by assumption)(t:wpAnyH h g c Q S i (f.setIfInBounds d true) (b.put e.dst v) a=n:=by(try simp only[afk,afl,List.set]);rfl):pQ (d::j) (wpAnyH h g c Q S (i+1) f b a):=tk s r o u p w (t▸k)
def pJ{m:Prop}(d:Nat){e:Oper}(j:m)(r:c[d]? = some e:=by rfl)(q:(Region.noSelect c&&Region.free g c f d&&(Region.ready g c f).contains d)=true:=by kernel_rfl)(u:∀k,S k->(execOp b.eval e).run h k=.ok (.value v) k:=by intro a p;(try dsimp only at p);go_simp;(try with_reducible rfl))(n:∀l b a,Q (.panic l) (b.put e.dst v) a->Q (.panic l) b a:=by exact λ_ _ _ j=>j)(t:Region.wanted e (yielded c b.tmps)=true:=by kernel_rfl)(o:S a:=by assumption)(s:wpAnyH h g c Q S i (f.setIfInBounds d true) (b.put e.dst v) a=m:=by(try simp only[afk,afl,List.set]);rfl):wpAnyH h g c Q S (i+1) f b a:=tk r q n t o u (s▸j)
def skz{m:Prop}(k:pQ j m)(q:c[d]? = some e:=by rfl)(p:(Region.noSelect c&&Region.free g c f d&&(Region.ready g c f).contains d)=true:=by kernel_rfl)(n:∀l b a,Q (.panic l) (b.put e.dst undef) a->Q (.panic l) b a:=by exact λ_ _ _ k=>k)(s:Region.wanted e (yielded c b.tmps)=false:=by kernel_rfl)(o:S a:=by assumption)(r:wpAnyH h g c Q S i (f.setIfInBounds d true) (b.put e.dst undef) a=m:=by(try simp only[afk,afl,List.set]);rfl):pQ (d::j) (wpAnyH h g c Q S (i+1) f b a):=skd q p n s o (r▸k)
def cx(d:Nat){e:Oper}(k:∀j:Act->World->Prop,Shut (∀b a,S a->(S a->wpAnyH h g c Q S i (f.setIfInBounds d true) b a)->j b a)->if Region.wanted e (yielded c b.tmps)=true then Oper.wp h e b a j Q else j (b.put e.dst undef) a)(m:Region.ready g c f=[d]:=by kernel_rfl)(l:c[d]? = some e:=by rfl):wpAnyH h g c Q S (i+1) f b a:=ZS d m l k
def cw{j:Nat}{d:Oper}(k:∀e:Act->World->Prop,Shut (∀b a,Q .normal b a->e b a)->if Region.wanted d (yielded c b.tmps)=true then Oper.wp h d b a e Q else e (b.put d.dst undef) a)(m:Region.ready g c f=[]:=by kernel_rfl)(l:c[j]? = some d:=by rfl):wpAnyH h g c (rA h c Q j) S i f b a:=QT m l k
def cy(S:World->Prop){id d:Nat}(g:S a.drew)(e:S a.drew->wpAnyH h .any c (rA h c Q d) S d ((Array.replicate (d+1) false).setIfInBounds d true) b a.drew)(k:h.follows .mixedOrders=true:=by kernel_rfl)(f:c.size=d+1:=by rfl)(i:sL .any c=true:=by kernel_rfl)(j:un .any c d=true:=by kernel_rfl):(Code.region id c true).wp h Q b a:=aaa S k f i j g e
def nz{a b:Prop}(d:b)(c:a=b:=by(try simp only[afk,afl,List.set]);rfl):a:=c▸d
end
section
variable {a f:Nat}{h:TypeId}{b:Int}{g:Array Zv}{d:Zb}{c e:Zw}
structure xd where
 rv:Zv
 nv:Zv
 pv:Zv
 w:Zb
 aN:Int
 aA:Int
 gv:Zv
abbrev pB(d:Zb)(c:fI)(e b:Int)(a:xd):Obj:=.cells #[Zs d,U c.F,Zs c.text,U c.y,U c.fin,U c.n,U c.e,a.rv,a.nv,a.pv,Zs a.w,U e,U b,U a.aN,U a.aA,a.gv] 114
def aS{a:Nat}{v}(b:e.heap[f]? = some (.cells g h))(c:g[a]? = some v):e.cell? (Zd f a)=some v:=by
 simp[World.cell?,b,c]
def lx(b:e.heap[f]? = some (.cells g h))(a:Nat):e.cell? (Zd f a)=g[a]?:=by simp[World.cell?,b]
def dw(b:e.heap[f]? = some (.cells g h)):∀a,e.frozen? ⟨f,a,none⟩=false:=by
 grind [World.frozen?]
def abt{g c:fI}{h f}(j:e.heap[a]? = some (pB d g h b f)):((((((e.setCell ⟨a,1,none⟩ (U c.F)).setCell ⟨a,2,none⟩ (Zs c.text)).setCell ⟨a,3,none⟩ (U c.y)).setCell ⟨a,4,none⟩ (U c.fin)).setCell ⟨a,5,none⟩ (U c.n)).setCell ⟨a,6,none⟩ (U c.e)).heap[a]? = some (pB d c h b f):=by
 have k:(e.setCell ⟨a,1,none⟩ (U c.F)).heap[a]? = some (.cells #[Zs d,U c.F,Zs g.text,U g.y,U g.fin,U g.n,U g.e,f.rv,f.nv,f.pv,Zs f.w,U h,U b,U f.aN,U f.aA,f.gv] 114):=bv (i:=1) j _;have l:((e.setCell ⟨a,1,none⟩ (U c.F)).setCell ⟨a,2,none⟩ (Zs c.text)).heap[a]? = some (.cells #[Zs d,U c.F,Zs c.text,U g.y,U g.fin,U g.n,U g.e,f.rv,f.nv,f.pv,Zs f.w,U h,U b,U f.aN,U f.aA,f.gv] 114):=bv (i:=2) k _;have m:(((e.setCell ⟨a,1,none⟩ (U c.F)).setCell ⟨a,2,none⟩ (Zs c.text)).setCell ⟨a,3,none⟩ (U c.y)).heap[a]? = some (.cells #[Zs d,U c.F,Zs c.text,U c.y,U g.fin,U g.n,U g.e,f.rv,f.nv,f.pv,Zs f.w,U h,U b,U f.aN,U f.aA,f.gv] 114):=bv (i:=3) l _;have o:((((e.setCell ⟨a,1,none⟩ (U c.F)).setCell ⟨a,2,none⟩ (Zs c.text)).setCell ⟨a,3,none⟩ (U c.y)).setCell ⟨a,4,none⟩ (U c.fin)).heap[a]? = some (.cells #[Zs d,U c.F,Zs c.text,U c.y,U c.fin,U g.n,U g.e,f.rv,f.nv,f.pv,Zs f.w,U h,U b,U f.aN,U f.aA,f.gv] 114):=bv (i:=4) m _;have p:(((((e.setCell ⟨a,1,none⟩ (U c.F)).setCell ⟨a,2,none⟩ (Zs c.text)).setCell ⟨a,3,none⟩ (U c.y)).setCell ⟨a,4,none⟩ (U c.fin)).setCell ⟨a,5,none⟩ (U c.n)).heap[a]? = some (.cells #[Zs d,U c.F,Zs c.text,U c.y,U c.fin,U c.n,U g.e,f.rv,f.nv,f.pv,Zs f.w,U h,U b,U f.aN,U f.aA,f.gv] 114):=bv (i:=5) o _;have q:((((((e.setCell ⟨a,1,none⟩ (U c.F)).setCell ⟨a,2,none⟩ (Zs c.text)).setCell ⟨a,3,none⟩ (U c.y)).setCell ⟨a,4,none⟩ (U c.fin)).setCell ⟨a,5,none⟩ (U c.n)).setCell ⟨a,6,none⟩ (U c.e)).heap[a]? = some (.cells #[Zs d,U c.F,Zs c.text,U c.y,U c.fin,U c.n,U c.e,f.rv,f.nv,f.pv,Zs f.w,U h,U b,U f.aN,U f.aA,f.gv] 114):=bv (i:=6) p _;omega
def jT(a b d c:Int):Int×Int:=if a=0 then (d,c)else (a,b)
def zS{o e m}(h:c.heap[a]? = some (pB d o e b m))(g f:Int) :
  Calls prog 51 #[Zp a,U g,U f] c λq n=>q=.returned (.tuple #[])/\n.heap[a]? = some (pB d o (jT e b g f).1 (jT e b g f).2 m)/\an [a] c n:=by
 have s:c.cell? (Zd a 11)=some (U e):=aS h rfl;have t:c.cell? (Zd a 12)=some (U b):=aS h rfl;have v:=dw h;have w:=au h;have l:=aa h;by_cases k:e=0
 .have j:af (jT e b g f=(g,f)):=Y9 k;subst k;go_in;go_wp2;go_end0;rw[j.w];have r:=bv (i:=11) l.w (U g);refine⟨rfl,bv (i:=12) r (U f),((ao [a] c).aH (p:=⟨a,11,none⟩) Zq _).aH (p:=⟨a,12,none⟩) Zq _⟩
 .have j:af (jT e b g f=(e,b)):=Y2 k;have u:(e==0)=false:=Zu;go_in;go_wp2;go_end0;rw[j.w];exact⟨rfl,l.w,ao ..⟩
def ql(a:fI)(c b:Int):Int×Int:=if a.F=5 then jT c b a.e a.y else jT c b 3 a.y
def zw{e f m}(g:c.heap[a]? = some (pB d e f b m)) :
  Calls prog 84 #[Zp a] c λl o=>l=.returned (.tuple #[])/\o.heap[a]? = some (pB d e (ql e f b).1 (ql e f b).2 m)/\an [a] c o:=by
 have y:c.cell? (Zd a 1)=some (U e.F):=aS g rfl;have z:c.cell? (Zd a 3)=some (U e.y):=aS g rfl;have A:c.cell? (Zd a 6)=some (U e.e):=aS g rfl;have C:=dw g;have D:=au g;have u:c.drew.heap[a]? = some (pB d e f b m):=g;have q:=aa (zS u e.e e.y);have r:=aa (zS g 3 e.y);by_cases n:e.F=5
 .have k:af (ql e f b=jT f b e.e e.y):=Y9 n;have t:((e.F:Int)==5)=true:=Zu;go_in;go_wp21;refine cy (λp=>p.cell? (Zd a 3)=some (U e.y)/\p.cell? (Zd a 6)=some (U e.e)) ?_ λB=>?_
  .go_keep
  refine bI [0,1,2,3,4,5,6,7,8,9,10] ?_;iterate 11 (refine bK ?_)
  refine bJ ?_;refine cw λx s=>?_;(go_simp;refine q.w.mono ?_;rintro l w ⟨rfl,i,j⟩;have h:=aa (Yp i (((ao [a] c).aU).u j));clear i j);refine s.out _ _ ?_;refine nz ?_;go_wp2;refine bodyPost_ret (v:=.tuple #[]) (by simp[results,results84]) rfl ?_;rw[k.w];exact⟨rfl,h.w.1,h.w.2⟩
 .have k:af (ql e f b=jT f b 3 e.y):=Y2 n;have t:((e.F:Int)==5)=false:=Zg;go_in;go_wp21;refine r.w.mono ?_;rintro l w ⟨rfl,i,j⟩;have h:=aa (Yp i j);go_wp2;go_end0;rw[k.w];exact⟨rfl,h.w.1,h.w.2⟩
def AH{e m q}(h:c.heap[a]? = some (pB d e m b q))(z:e.fin<=d.length)(y:d.length<=2000) :
  Calls prog 47 #[Zp a] c λo r=>o=.returned (.tuple #[])/\r.heap[a]? = some (pB d (hQ d e.fin) m b q)/\an [a] c r:=by
 have v:c.cell? (Zd a 0)=some (Zs d):=aS h rfl;have w:c.cell? (Zd a 4)=some (U e.fin):=aS h rfl;have F:=dw h;have I:=au h;have u:=aa (Oj d e.fin z y c.drew);have k:=aa h;generalize hQ d e.fin=J at *
 go_in;go_wp21;refine cy (λs=>s.cell? (Zd a 0)=some (Zs d)/\s.cell? (Zd a 4)=some (U e.fin)) ?_ λx=>?_
 .go_keep
 refine bI [0,1,2,3,4,5,6,7,8,9] ?_;iterate 10 (refine bK ?_)
 refine bJ ?_;refine cx 10 λt i=>?_;(go_simp;go_at_call 80;refine u.w.mono ?_;rintro o g ⟨rfl,j⟩;have f:g.heap[a]? = _:=(j.L _ (au k.w) Zq).trans k.w;have v:g.cell? (Zd a 0)=some (Zs d):=aS f rfl;have A:g.cell? (Zd a 1)=some (U e.F):=aS f rfl;have B:g.cell? (Zd a 2)=some (Zs e.text):=aS f rfl;have C:g.cell? (Zd a 3)=some (U e.y):=aS f rfl;have w:g.cell? (Zd a 4)=some (U e.fin):=aS f rfl;have D:g.cell? (Zd a 5)=some (U e.n):=aS f rfl;have E:g.cell? (Zd a 6)=some (U e.e):=aS f rfl;have G:=dw f;have H:=au f;have l:=aa (Yp f ((((ao [] c).aU).u j)));clear f j);refine i.out _ _ ?_ (λx=>?_)
 .go_keep
 refine nz ?_;refine bI [11,12] ?_;iterate 2 (refine bK ?_)
 refine bJ ?_;refine cw λt i=>?_;go_simp;refine i.out _ _ ?_;refine nz ?_;go_end0;exact⟨rfl,abt l.w.1,(((((((l.w.2.ak Zq).aH (p:=⟨a,1,none⟩) Zq _).aH (p:=⟨a,2,none⟩) Zq _).aH (p:=⟨a,3,none⟩) Zq _).aH (p:=⟨a,4,none⟩) Zq _).aH (p:=⟨a,5,none⟩) Zq _).aH (p:=⟨a,6,none⟩) Zq _)⟩
def kq(a:fI)(b:Int)(c:Nat)(d:Zb):Bool:=(b==0)&&((a.F==c)&&(a.text==d))
def Dj{e g o}(j:c.heap[a]? = some (pB d e g b o))(f:Nat)(h:Zb) :
  Calls prog 81 #[Zp a,U f,Zs h] c λn p=>n=.returned (.bool (kq e g f h))/\p=c:=by
 have r:c.cell? (Zd a 11)=some (U g):=aS j rfl;have q:c.cell? (Zd a 1)=some (U e.F):=aS j rfl;have s:c.cell? (Zd a 2)=some (Zs e.text):=aS j rfl;have t:=dw j;have u:=au j;by_cases k:g=0
 .subst k;by_cases l:e.F=f
  .have i:af (kq e 0 f h=(e.text==h)):=by show _=_;simp[kq,l]
   have m:((e.F:Int)==(f:Int))=true:=Zu;go_in;go_wp2;all_goals
    go_ret
    refine⟨oE ?_,rfl⟩
    rw[i.w]
    try (first|rfl|simp_all)
  .have i:af (kq e 0 f h=false):=by show _=_;simp[kq,l]
   have m:((e.F:Int)==(f:Int))=false:=Zg;go_in;go_wp2;go_ret;exact⟨by rw[i.w];rfl,rfl⟩
 .have i:af (kq e g f h=false):=by show _=_;simp[kq,k]
  have m:(g==0)=false:=Zu;go_in;go_wp2;go_ret;exact⟨by rw[i.w];rfl,rfl⟩
end
section
variable {f b:Nat}{h:TypeId}{r q o m l j d0 d1 d2 d3 d4 d5:Zv}{k:xd}{d:Zb}{c g:Zw}
def AF{a:Nat}(c:a<=d.length):(hQ d a).fin<=d.length:=by
 have f:=HE c;unfold hQ;cases b:Mar.c8 (d.drop (gj d a)) (gj d a)with
 |error e=>simp
 |ok g=>
  have:=CU b;grind
structure nk where
 x:fI
 e:Int
 a:Int
def dC:fI:=⟨0,[],0,0,0,0⟩
def uN(d:Zb)(a:nk):nk:={ a with x:=hQ d a.x.fin }
def ny(b:nk):nk:=⟨b.x,(ql b.x b.e b.a).1,(ql b.x b.e b.a).2⟩
def qY(d:Zb)(a:nk)(b:Nat)(c:Zb):nk:=if kq a.x a.e b c then uN d a else ny a
def li(d:Zb)(a:nk):fI×nk:=if a.e≠0 then (dC,a)else if a.x.F=1 then (a.x,uN d a)else (dC,ny a)
abbrev pA(d:Zb)(b:nk)(k:xd):Obj:=pB d b.x b.e b.a k
def FE(f:Nat)(d:Zb)(a:nk)(k:xd)(v:Zv)(c:Zw)(e:Ending)(b:Zw):Prop:=e=.returned v/\b.heap[f]? = some (pA d a k)/\an [f] c b/\a.x.fin<=d.length
def MF{a}(n:c.heap[f]? = some (pA d a k))(s:a.x.fin<=d.length)(t:d.length<=2000)(g:Nat)(h:Zb) :
  Calls prog 141 #[Zp f,U g,Zs h] c (FE f d (qY d a g h) k (.tuple #[]) c):=by
 have b:=aa (Dj n g h);have p:=aa (zw n);have q:=aa (AH n s t);clear n;cases l:kq a.x a.e g h with
 |true=>
  have o:af (qY d a g h=uN d a):=Y9 l;rw[l]at b;clear l p;go_in;go_wp21;refine b.w.mono ?_;rintro r u ⟨rfl,rfl⟩;go_wp21;refine q.w.mono ?_;rintro r w ⟨rfl,j,m⟩;have i:=aa (Yp j m);clear j m q b;go_wp2;go_end0;rw[o.w];exact⟨rfl,i.w.1,i.w.2,AF s⟩
 |false=>
  have o:af (qY d a g h=ny a):=Y2 Zu;rw[l]at b;clear l q;go_in;go_wp21;refine b.w.mono ?_;rintro r u ⟨rfl,rfl⟩;go_wp21;refine p.w.mono ?_;rintro r w ⟨rfl,j,m⟩;have i:=aa (Yp j m);clear j m p b;go_wp2;refine bodyPost_ret (v:=.tuple #[]) (by simp_all[results]) rfl ?_;rw[o.w];exact⟨rfl,i.w.1,i.w.2,s⟩
def fs(a:g.heap[b]? = some (.cells #[r,q,o,m,l,j] h)) :
  g.cell? (Zd b 0)=some r/\g.cell? (Zd b 1)=some q/\g.cell? (Zd b 2)=some o/\g.cell? (Zd b 3)=some m/\g.cell? (Zd b 4)=some l/\g.cell? (Zd b 5)=some j/\(∀c,g.frozen? ⟨b,c,none⟩=false)/\b<g.heap.size:=by
 refine⟨?_,?_,?_,?_,?_,?_,?_,au a⟩<;>simp[World.cell?,World.frozen?,a]
def yC(a:g.heap[b]? = some (.cells #[r,q,o,m,l,j] h)):((((((g.setCell ⟨b,0,none⟩ d0).setCell ⟨b,1,none⟩ d1).setCell ⟨b,2,none⟩ d2).setCell ⟨b,3,none⟩ d3).setCell ⟨b,4,none⟩ d4).setCell ⟨b,5,none⟩ d5).heap[b]? = some (.cells #[d0,d1,d2,d3,d4,d5] h):=by
 have c:(g.setCell ⟨b,0,none⟩ d0).heap[b]? = some (.cells #[d0,q,o,m,l,j] h):=bv (i:=0) a d0;have d:((g.setCell ⟨b,0,none⟩ d0).setCell ⟨b,1,none⟩ d1).heap[b]? = some (.cells #[d0,d1,o,m,l,j] h):=bv (i:=1) c d1;have e:(((g.setCell ⟨b,0,none⟩ d0).setCell ⟨b,1,none⟩ d1).setCell ⟨b,2,none⟩ d2).heap[b]? = some (.cells #[d0,d1,d2,m,l,j] h):=bv (i:=2) d d2;have f:((((g.setCell ⟨b,0,none⟩ d0).setCell ⟨b,1,none⟩ d1).setCell ⟨b,2,none⟩ d2).setCell ⟨b,3,none⟩ d3).heap[b]? = some (.cells #[d0,d1,d2,d3,l,j] h):=bv (i:=3) e d3;have k:(((((g.setCell ⟨b,0,none⟩ d0).setCell ⟨b,1,none⟩ d1).setCell ⟨b,2,none⟩ d2).setCell ⟨b,3,none⟩ d3).setCell ⟨b,4,none⟩ d4).heap[b]? = some (.cells #[d0,d1,d2,d3,d4,j] h):=bv (i:=4) f d4;have n:((((((g.setCell ⟨b,0,none⟩ d0).setCell ⟨b,1,none⟩ d1).setCell ⟨b,2,none⟩ d2).setCell ⟨b,3,none⟩ d3).setCell ⟨b,4,none⟩ d4).setCell ⟨b,5,none⟩ d5).heap[b]? = some (.cells #[d0,d1,d2,d3,d4,d5] h):=bv (i:=5) k d5;omega
def JT{d}(e:an d c g)(a:c.heap.size<=b):an d c ((((((g.setCell ⟨b,0,none⟩ d0).setCell ⟨b,1,none⟩ d1).setCell ⟨b,2,none⟩ d2).setCell ⟨b,3,none⟩ d3).setCell ⟨b,4,none⟩ d4).setCell ⟨b,5,none⟩ d5):=
 (((((e.b4 (p:=⟨b,0,none⟩) a d0).b4 (p:=⟨b,1,none⟩) a d1).b4 (p:=⟨b,2,none⟩) a d2).b4 (p:=⟨b,3,none⟩) a d3).b4 (p:=⟨b,4,none⟩) a d4).b4 (p:=⟨b,5,none⟩) a d5
def Km{a}(c:g.heap[f]? = some a)(d:f≠b):((((((g.setCell ⟨b,0,none⟩ d0).setCell ⟨b,1,none⟩ d1).setCell ⟨b,2,none⟩ d2).setCell ⟨b,3,none⟩ d3).setCell ⟨b,4,none⟩ d4).setCell ⟨b,5,none⟩ d5).heap[f]? = some a:=by
 simp_all[Below.heap_setCell]
def aeJ{a}(w:c.heap[f]? = some (pA d a k))(D:a.x.fin<=d.length)(a4:d.length<=2000) :
  Calls prog 152 #[Zp f] c (FE f d (li d a).2 k (.agg (gW (li d a).1)) c):=by
 have a5:=au w;have G:∀g,an [] c (c.alloc g):=λg=>(ao [] c).H g;have h:∀g,(c.alloc g).heap[f]? = some (pA d a k):=λg=>(Below.heap_alloc _ _ _ a5).trans w;have q:∀g,(c.alloc g).cell? (Zd f 1)=some (U a.x.F):=λg=>aS (h g) rfl;have o:∀g,(c.alloc g).cell? (Zd f 2)=some (Zs a.x.text):=λg=>aS (h g) rfl;have m:∀g,(c.alloc g).cell? (Zd f 3)=some (U a.x.y):=λg=>aS (h g) rfl;have l:∀g,(c.alloc g).cell? (Zd f 4)=some (U a.x.fin):=λg=>aS (h g) rfl;have j:∀g,(c.alloc g).cell? (Zd f 5)=some (U a.x.n):=λg=>aS (h g) rfl;have c5:∀g,(c.alloc g).cell? (Zd f 6)=some (U a.x.e):=λg=>aS (h g) rfl;have c4:∀g,(c.alloc g).cell? (Zd f 11)=some (U a.e):=λg=>aS (h g) rfl;have S:=aa h;by_cases F:a.e=0
 .have a2:(a.e != 0)=false:=Zu;by_cases R:a.x.F=1
  .have s:af (li d a=(a.x,uN d a)):=by simp_all[li]
   have a3:((a.x.F:Int) != 1)=false:=Zu;have P:=aa (λ(z H:Obj)=>AH ((Below.heap_alloc (c.alloc z) H _ Zg).trans (h z)) D a4);clear w h F R;go_in;go_wp21;refine(P.w _ _).mono ?_;rintro a1 r ⟨rfl,y,i⟩;have p:r.heap[c.heap.size]? = some (.cells #[U 0,.string ⟨#[]⟩,U 0,U 0,U 0,U 0] 112):=(i.L _ Zx Zg).trans ((Below.heap_alloc _ _ _ Zq).trans (aQ rfl));have u:r.heap[c.heap.size+1]? = some (.cells (gW a.x) 112):=(i.L _ Zq Zg).trans (aQ Zq);obtain⟨a6,a7,a8,a9,b0,b1,b2,b3⟩:=fs p;obtain⟨b4,b5,b6,b7,b8,b9,c0,c1⟩:=fs u;have E:=aa p;have t:=aa (Yp y (((((G _).ak Zq).u ((ao [f] _).H _)).u i)));clear y i p u P;go_wp2;have C:=yC (d0:=U a.x.F) (d1:=Zs a.x.text) (d2:=U a.x.y) (d3:=U a.x.fin) (d4:=U a.x.n) (d5:=U a.x.e) E.w;have B:=Km (d0:=U a.x.F) (d1:=Zs a.x.text) (d2:=U a.x.y) (d3:=U a.x.fin) (d4:=U a.x.n) (d5:=U a.x.e) t.w.1 (show f≠c.heap.size by omega);have A:=JT (b:=c.heap.size) (d0:=U a.x.F) (d1:=Zs a.x.text) (d2:=U a.x.y) (d3:=U a.x.fin) (d4:=U a.x.n) (d5:=U a.x.e) t.w.2 (Y4 _);generalize ((((((r.setCell ⟨c.heap.size,0,none⟩ (U a.x.F)).setCell ⟨c.heap.size,1,none⟩ (Zs a.x.text)).setCell ⟨c.heap.size,2,none⟩ (U a.x.y)).setCell ⟨c.heap.size,3,none⟩ (U a.x.fin)).setCell ⟨c.heap.size,4,none⟩ (U a.x.n)).setCell ⟨c.heap.size,5,none⟩ (U a.x.e))=a0 at C B A ⊢;obtain⟨I,J,K,L,M,N,c2,c3⟩:=fs C;refine bodyPost_ret (v:=.agg (gW a.x)) (by simp[results,results152,go_sem,I,J,K,L,M,N,dC]) rfl ?_;rw[s.w];exact⟨rfl,B,A,AF D⟩
  .have s:af (li d a=(dC,ny a)):=by simp_all[li]
   have a3:((a.x.F:Int) != 1)=true:=Zg;have O:=aa (λ(z H:Obj)=>zw ((Below.heap_alloc (c.alloc z) H _ Zg).trans (h z)));clear w h F R;go_in;go_wp21;refine(O.w _ _).mono ?_;rintro a1 r ⟨rfl,y,i⟩;have p:r.heap[c.heap.size]? = some (.cells #[U 0,.string ⟨#[]⟩,U 0,U 0,U 0,U 0] 112):=(i.L _ Zx Zg).trans ((Below.heap_alloc _ _ _ Zq).trans (aQ rfl));have u:r.heap[c.heap.size+1]? = some (.cells (gW a.x) 112):=(i.L _ Zq Zg).trans (aQ Zq);obtain⟨a6,a7,a8,a9,b0,b1,b2,b3⟩:=fs p;obtain⟨b4,b5,b6,b7,b8,b9,c0,c1⟩:=fs u;have E:=aa p;have t:=aa (Yp y (((((G _).ak Zq).u ((ao [f] _).H _)).u i)));clear y i p u O;go_wp2;have C:=yC (d0:=U 0) (d1:=.string ⟨#[]⟩) (d2:=U 0) (d3:=U 0) (d4:=U 0) (d5:=U 0) E.w;have B:=Km (d0:=U 0) (d1:=.string ⟨#[]⟩) (d2:=U 0) (d3:=U 0) (d4:=U 0) (d5:=U 0) t.w.1 (show f≠c.heap.size by omega);have A:=JT (b:=c.heap.size) (d0:=U 0) (d1:=.string ⟨#[]⟩) (d2:=U 0) (d3:=U 0) (d4:=U 0) (d5:=U 0) t.w.2 (Y4 _);generalize ((((((r.setCell ⟨c.heap.size,0,none⟩ (U 0)).setCell ⟨c.heap.size,1,none⟩ (.string ⟨#[]⟩)).setCell ⟨c.heap.size,2,none⟩ (U 0)).setCell ⟨c.heap.size,3,none⟩ (U 0)).setCell ⟨c.heap.size,4,none⟩ (U 0)).setCell ⟨c.heap.size,5,none⟩ (U 0))=a0 at C B A ⊢;obtain⟨I,J,K,L,M,N,c2,c3⟩:=fs C;refine bodyPost_ret (v:=.agg (gW dC)) (by simp[results,results152,go_sem,I,J,K,L,M,N,dC]) rfl ?_;rw[s.w];exact⟨rfl,B,A,D⟩
 .have s:af (li d a=(dC,a)):=by simp_all[li]
  have a2:(a.e != 0)=true:=Zu;clear w h F;go_in;go_wp2;refine bodyPost_ret (v:=.agg (gW dC)) (by simp[results,results152,go_sem,dC]) rfl ?_;rw[s.w];exact⟨rfl,S.w _,(G _).ak Zq,D⟩
end
section
variable {l:Zc}{a:Zw}
def rl(a:Zw)(v:Zv)(d g:Nat)(f:Nat->Zv):Prop:=∃ad e,v=.slice ad d e/\∀b,b<d->∃c,ad=some ⟨c,0,none⟩/\a.cell? ⟨c,b*g,none⟩=some (f b)
def HO:(∀{a:Zw} {v:Zv} {l:List Int},rl a v l.length 1 (λe=>U (l.getD e 0))->l.length<=1000000000->∀c:Int,Calls prog 149 #[v,U c] a λj n=>j=.returned (.bool (l.contains c))/\n=a)/\
  ∀{a:Zw} {v:Zv} {l:Zc},rl a v l.length 1 (λe=>.string ⟨(l.getD e []).toArray⟩)->l.length<=1000000000->∀c:Zb,Calls prog 257 #[v,Zs c] a λj n=>j=.returned (.bool (l.contains c))/\n=a:=by
 constructor;all_goals
  intro a v l m D c
  obtain⟨ad,x,rfl,m⟩:=m
  have s:=aa m
  go_in
  go_wp2
  go_loopw [5] (λe w=>∃b:Nat,e=U b/\b<=l.length/\af (∀f∈l.take b,f≠c)/\w=a) (λe _=>l.length-(intOf e).toNat)
  case atStart=>exact⟨0,rfl,Zm,(by intro f d;simp at d),rfl⟩
  case round=>
   obtain⟨b,rfl,B,o,rfl⟩:=hrel;rcases Yj b l.length with h|A
   .obtain⟨y,rfl,p⟩:=s.w b h;rw[Nat.mul_one,show l.getD b _=l[b] by simp[h]]at p;have C:(0:Int)<=↑b:=Zm;have t:(↑b:Int) < ↑l.length:=Zm;by_cases i:l[b]=c
    .have k:af (l.contains c=true):=by show _=_;simp;rw[<-i];exact Yy h
     rw[i]at p;go_wp2;go_ret;exact⟨by rw[k.w];rfl,rfl⟩
    .have r:af (∀f∈l.take (b+1),f≠c):=by
      intro f d;rw[Yt h,Yn]at d;rcases d with d|d
      .exact o.w f d
      .simp at d;rw[d];exact i
     have z:(l[b]==c)=false:=by simpa using i
     generalize l[b]=E at *
     go_wp2;exact⟨⟨b+1,Zj,h,r,trivial⟩,Zz⟩
   .have u:b=l.length:=Zm;subst u;have k:af (l.contains c=false):=by
     have:=o.w;rw[YG]at this;show _=_;simp;intro g;exact this c g rfl
    have t:¬((l.length:Int)<(l.length:Int)):=Zm;have g:c ∉ l:=by have:=k.w;simpa using this
    have q:=aa g;go_wp2;go_ret;refine⟨oE ?_,rfl⟩;have g:=q.w;simp[g]
def zZ{v}{l:List Int}(e:rl a v l.length 1 λf=>U (l.getD f 0))(d:l.length<=1000000000)(b:Int) :
  Calls prog 149 #[v,U b] a λc g=>c=.returned (.bool (l.contains b))/\g=a:=HO.1 e d b
def Tp{v}(e:rl a v l.length 1 λf=>.string ⟨(l.getD f []).toArray⟩)(d:l.length<=1000000000)(b:Zb) :
  Calls prog 257 #[v,Zs b] a λc g=>c=.returned (.bool (l.contains b))/\g=a:=HO.2 e d b
def pi(l:Zc)(a:Zb):Int:=if l.contains a then (l.idxOf a:Int)else -1
def Sv{v}(n:rl a v l.length 4 λh=>.string ⟨(l.getD h []).toArray⟩)(E:l.length<=1000000000)(c:Zb) :
  Calls prog 90 #[v,Zs c] a λj x=>j=.returned (U (pi l c))/\x=a:=by
 obtain⟨ad,y,rfl,n⟩:=n;have q:=aa n;go_in;go_wp2;go_loopw [5] (λh w=>∃b:Nat,h=U b/\b<=l.length/\af (∀f∈l.take b,f≠c)/\w=a) (λh _=>l.length-(intOf h).toNat)
 case atStart=>exact⟨0,rfl,Zm,(by intro f d;simp at d),rfl⟩
 case round=>
  obtain⟨b,rfl,C,i,rfl⟩:=hrel;rcases Yj b l.length with e|B
  .obtain⟨z,rfl,o⟩:=q.w b e;rw[show l.getD b []=l[b] by simp[e]]at o;have D:(0:Int)<=↑b:=Zm;have s:(↑b:Int) < ↑l.length:=Zm;by_cases g:l[b]=c
   .have m:af (pi l c=b):=by
     show _=_;have r:l.contains c=true:=by simp;rw[<-g];exact Yy e
     unfold pi;rw[Y9 r];congr 1;have j:l=l.take b++c::l.drop (b+1):=by
      rw[<-g,<-Yk e,List.take_append_drop]
     rw[j,List.idxOf_append];have u:c ∉ l.take b:=λk=>i.w c k rfl;rw[Y2 u];simp;omega
    rw[g]at o;go_wp2;go_ret;exact⟨by rw[m.w];rfl,rfl⟩
   .have p:af (∀f∈l.take (b+1),f≠c):=by
     intro f d;rw[Yt e,Yn]at d;rcases d with d|d
     .exact i.w f d
     .simp at d;rw[d];exact g
    have A:(l[b]==c)=false:=by simpa using g
    generalize l[b]=F at *
    go_wp2;exact⟨⟨b+1,Zj,e,p,trivial⟩,Zz⟩
  .have t:b=l.length:=Zm;subst t;have m:af (pi l c = -1):=by
    have:=i.w;rw[YG]at this;show _=_;unfold pi;rw[Y2];simp;intro k;exact this c k rfl
   have s:¬((l.length:Int)<(l.length:Int)):=Zm;go_wp2;go_ret;exact⟨by rw[m.w];rfl,rfl⟩
end
end Go.Proofs.YtjdhaegijjednaaGreatDoor
namespace Go.Proofs.YtjdhaegijjednaaGreatDoor
open Go.RowKit
open Go.Lib (decDigits)
open Go.Proofs.Tryz
theorem zN{a:Nat}(b:a<10):decDigits a=[UInt8.ofNat (48+a)]:=by rw[Lib.decDigits,dif_pos b]
def GI{a:Nat}(b:¬a<10):decDigits a=decDigits (a / 10)++decDigits (a % 10):=by
 rw[Lib.decDigits,dif_neg b,zN (Nat.mod_lt a Zm)]
def xE:∀(a b:Nat),b<10 ^ (a+1)->(decDigits b).length<=a+1:=by
 intro a;induction a with
 |zero=>grind [zN]
 |succ a e=>
  intro b d;by_cases c:b<10
  .grind
  .rw[GI c,Yq,zN (Nat.mod_lt b Zm)];grind
def lU(a b:Zb):(⟨a.toArray⟩:Za)++(⟨b.toArray⟩:Za)=⟨(a++b).toArray⟩:=by
 rfl
def GX:∀(a:Nat),a<=10000000000->∀(b:Zw),Calls prog 144 #[U a] b λd s=>d=.returned (.string ⟨(decDigits a).toArray⟩)/\an [] b s:=by
 intro a;induction a using Nat.strongRecOn with
 |_ a f=>
  intro A b;have D:¬((a:Int)<0):=Zm;by_cases e:a<10
  .have c:af (decDigits a=[UInt8.ofNat (48+a)]):=zN e;have r:¬((9:Int)<(a:Int)):=Zm;have x:IntKind.u8.wrap (48+(a:Int))=48+(a:Int):=by rw[IntKind.wrap_u8];omega
   have l:af (∀b:Zw,(convert 97 9 (.slice (some ⟨b.heap.size,0,none⟩) 1 1)).run prog (b.alloc (.cells #[.int .u8 (48+(a:Int))] 5))=.ok (.string ⟨#[UInt8.ofNat (48+a)]⟩) (b.alloc (.cells #[.int .u8 (48+(a:Int))] 5))):=by
    intro b;refine run_convert_bytes_back (b.alloc _) 97 9 5 ⟨b.heap.size,0,none⟩ 1 [UInt8.ofNat (48+a)] underlying97 underlying5 underlying9 λo m=>?_;have n:o=0:=Zu;subst n;have k:(⟨b.heap.size,0,none⟩:Addr).add 0=⟨b.heap.size,0,none⟩:=Zr;rw[k,aS (aQ rfl) rfl];simp;omega
   have y:=l.w b;go_in;go_wp2;go_ret;refine⟨?_,(ao ..).H _⟩;rw[c.w];simp
  .have c:af (decDigits a=decDigits (a / 10)++decDigits (a % 10)):=GI e;have i:=aa (f (a / 10) Zm Zm);have j:=aa (f (a % 10) Zm Zm);have r:(9:Int)<(a:Int):=Zm;have v:(a:Int).tdiv 10=((a / 10:Nat):Int):=by
    rfl
   have w:(a:Int).tmod 10=((a % 10:Nat):Int):=by
    rfl
   have B:=xE 10 (a / 10) Zm;have C:=xE 10 (a % 10) Zm;have z:¬(9223372036854775807<(decDigits (a / 10)).length+(decDigits (a % 10)).length):=Zm;have m:=lU (decDigits (a / 10)) (decDigits (a % 10));generalize decDigits (a / 10)=t at *
   generalize decDigits (a % 10)=u at *
   go_in;go_wp21;refine(i.w _).mono ?_;rintro d E ⟨rfl,p⟩;have g:=aa p;go_wp21;refine(j.w _).mono ?_;rintro d F ⟨rfl,q⟩;have h:=aa (g.w.u q);go_wp2;go_ret;exact⟨by rw[c.w];rfl,h.w⟩
def sV(b:Int)(m:-10000000000<=b)(n:b<=10000000000)(d:Zw):Calls prog 144 #[U b] d λe j=>e=.returned (.string ⟨(Lib.itoa b).toArray⟩)/\an [] d j:=by
 by_cases l:b<0
 .obtain⟨a,rfl⟩:∃a:Nat,b = -(a:Int):=⟨b.natAbs,Zm⟩;have c:af (Lib.itoa (-(a:Int))=45::decDigits a):=by
   show _=_;simp_all[Lib.itoa]
  have h:=aa (GX a Zm);have k:IntKind.i64.wrap (a:Int)=a:=by rw[IntKind.wrap_i64];omega
  have q:=xE 10 a Zm;have o:=lU [45] (decDigits a);generalize decDigits a=f at *
  go_in;go_wp21;refine(h.w _).mono ?_;rintro e r ⟨rfl,i⟩;have g:=aa i;have p:¬(9223372036854775807<1+f.length):=Zm;go_wp2;go_ret;exact⟨by rw[c.w];rfl,g.w⟩
 .obtain⟨a,rfl⟩:∃a:Nat,b=(a:Int):=⟨b.toNat,Zm⟩;have c:Lib.itoa (a:Int)=decDigits a:=by
   rfl
  rw[c];exact GX a Zm d
end Go.Proofs.YtjdhaegijjednaaGreatDoor
namespace Go.Proofs.YtjdhaegijjednaaGreatDoor
open Go.RowKit Go.MapKept Go.Proofs.Tryz
section
variable {A:Ad}{f:List Nat}{a:fe}{b:List aW}{e:Zb×Nat}{h:Zv}{g:Zc}{u c:Zw}{d i:St}
def TI:(prog.info? 242).map (λa=>(a.zero,a.size,a.bytes))=some (some (.agg #[.string ⟨#[]⟩,U 0,.nilIface]),3,40):=Zk
def mc(c:Za)(a:fe):PX (List aW×Zc) Unit:=λb d=>match eY c (bA a.q a.bx) b.2 d with
 |.ok (e,g,h)=>aP (lift (cI c [59])) (λ_=>dA ()) (b.1++[e],g) h
 |.error f=>.error f
def yF{c}{f:Zc}{h:St}{e:aW}(i:eY c (bA a.q a.bx) g d=.ok (e,f,h)) :
  mc c a (b,g) d=aP (lift (cI c [59])) (λ_=>dA ()) (b++[e],f) h:=by simp only[mc,i]
theorem Bp{e c}(f:eY e (bA a.q a.bx) g d=.error c):mc e a (b,g) d=.error c:=by simp only[mc,f]
def Bo(A:Ad)(i:Za)(c:Zw)(a:fe)(e:Zb×Nat)(g:Nat)(f:List Nat)(b:List aW×Zc)(d:St)(u:Zw):Prop:=b.1.length=g/\∃h,nr A i c a e b.1 f b.2 h d u
def nr.cS{l}(k:nr A l c a e b f g h d u):∃ad i,h=.slice ad b.length i:=by
 rcases k.row.2 with⟨rfl,j⟩|⟨n,i,m,rfl,_⟩
 .exact⟨none,0,by rw[j]⟩
 .exact⟨_,_,rfl⟩
def nr.bk{l}(m:Rd A l i c)(k:nr A l c a e b f g h d u):dK (A.aw f) a.q:=by
 obtain⟨o,p,r,s⟩:=m.lt;have j:=k.az a.q (by simp[fe.a6]);have n:=k.aB _ j;refine⟨Yf _ j,?_,?_,?_,?_⟩<;>simp only[Ad.aw]<;>omega
def bS{a:Nat}{b:Zv}{d}(e:c.heap[a]? = some (.cells #[b] d)):c.cell? (Zd a 0)=some b:=by simp[World.cell?,e]
def Kk(a:aW):∀u∈mJ a,u.oneCell'=true:=by
 intro u b;simp only[Yg,List.not_mem_nil,or_false]at b;rcases b with rfl|rfl|rfl
 .rfl
 .rfl
 .cases a.O<;>rfl
theorem acV{J}{b1:Nat}(E:Rd A J i c)(g3:b1<1000)(r:Bo A J c a e b1 f (b,g) d u) :
  Calls prog 196 #[Zp a.db,Zp a.rb,Zp a.cb] u (nj A c (Bo A J c a e (b1+1)) (mc J a (b,g) d)):=by
 obtain⟨a9,h,j⟩:=r;dsimp only at a9 j;have d1:=aa a9;have g1:b.length<1000:=Zm;clear a9;obtain⟨ad,y,rfl⟩:=j.cS;have w:=aa j;obtain⟨g7,g8,g9,g2⟩:=fq j.ap;have i3:=bS j.vr;have i2:=bS j.vd;have e9:=bS j.vc;have a3:Below u.heap.size u u.drew:=(Below.refl ..).drew;have d0:=aa (GL (du A f) (Cz (j.bk E)) (j.rd.ah a3) (show (bA a.q a.bx).I g u.drew from j.a5.ac (bT [] a3) Zq) (j.cl.ac (bT [] a3) Zq));have e5:=j.nd;simp only[fe.a6,List.nodup_cons,Yg,List.not_mem_nil,or_false,not_or]at e5;have i0:a.rb≠a.D:=Zm;have h9:a.db≠a.D:=Zm;have h8:a.cb≠a.D:=Zm;have a0:∀k,an [A.S,a.q] u.drew k->(∀s,(k.alloc s).ownsRow c.heap.size 242 3 (.slice ad b.length y) b.length (b.flatMap mJ))/\
   k.heap[a.D]? = some (.cells #[.string ⟨e.1.toArray⟩,U e.2,.slice ad b.length y] 353)/\c.heap.size<=k.heap.size/\
   k.heap[a.rb]? = some (.cells #[Zp A.R] 145)/\k.heap[a.db]? = some (.cells #[Zp a.D] 229)/\k.heap[a.cb]? = some (.cells #[(bA a.q a.bx).v] 341):=by
  intro k n;have t:=((ao _ u).aU).u n;obtain⟨h0,h1,h2,h3⟩:=E.lt;have C:∀m∈a.a6,m≠a.q->m ∉ [A.S,a.q]:=λm a1 g5=>by have:=j.aB _ (j.az m a1);grind
  refine⟨λs=>bw (bw j.row t ?_) ((ao [] k).H s) Zq,(t.L _ (au j.ap) (C _ (by simp[fe.a6]) Zm)).trans j.ap,Yz j.kp.aD t.aD,
   (t.L _ (au j.vr) (C _ (by simp[fe.a6]) Zm)).trans j.vr,(t.L _ (au j.vd) (C _ (by simp[fe.a6]) Zm)).trans j.vd,(t.L _ (au j.vc) (C _ (by simp[fe.a6]) Zm)).trans j.vc⟩
  intro B a6;have b8:=j.ae B a6;have f9:=j.aB _ b8.1;have g0:B≠a.q:=λz=>b8.2 (by rw[z];simp[fe.a6]);grind
 have c8:=aa a0;have c0:∀k s o,an [A.S,a.q] u.drew k->(k.alloc s).grownBy o (Value.slice ad b.length y).ownBlock->o.heap[a.D]? = some (.cells #[.string ⟨e.1.toArray⟩,U e.2,.slice ad b.length y] 353)/\
   o.heap[a.rb]? = some (.cells #[Zp A.R] 145)/\o.heap[a.db]? = some (.cells #[Zp a.D] 229)/\o.heap[a.cb]? = some (.cells #[(bA a.q a.bx).v] 341):=by
  intro k s o n a6;obtain⟨_,d6,_,d7,d8,d9⟩:=a0 k n;have G:∀m∈a.a6,∀b2,k.heap[m]? = some b2->o.heap[m]? = some b2:=λm a1 b2 r=>by
   have e2:=au r;exact(a6.block _ Zx (λz=>(j.ae _ z.symm).2 a1)).trans ((((ao [] k).H s).L _ e2 Zq).trans r)
  exact⟨G _ (by simp[fe.a6]) _ d6,G _ (by simp[fe.a6]) _ d7,G _ (by simp[fe.a6]) _ d8,G _ (by simp[fe.a6]) _ d9⟩
 have c9:=aa c0;have e3:(b.length+1)*40<=140737488355328:=Zm;clear j a0 c0;dsimp only[dU.v,bA]at e9;go_in;go_wp21;refine cy (λK=>K.cell? (Zd a.db 0)=some (Zp a.D)/\K.cell? (Zd a.rb 0)=some (Zp A.R)/\K.cell? (Zd a.cb 0)=some (.func (.func 251) #[] #[Zp a.bx])/\K.cell? (Zd a.D 2)=some (.slice ad b.length y)) ?_ λP=>?_
 .go_keep
 refine bI [0,1,2,3,4,5,6] ?_;iterate 7 (refine bK ?_)
 refine bJ ?_;refine cx 7 λp l=>?_;(go_simp;go_at_call 191;refine d0.w.mono ?_;rintro z k ⟨n,⟨O,e8,i6,F,rfl,c6,c3⟩|⟨d5,F,m,a2,rfl,a5⟩⟩;rotate_left;exact aE (pR ((w.w.kp.b1 (((ao _ u).aU).u n) (by intro h7 j;simp[bA]at j ⊢;rcases j with r|r;exact Y8 (Ya (Y8 r));exact Ya (by have:=w.w.aB _ (w.w.az a.q (by simp[fe.a6]));omega)))) w.w.kp (Bp F) a2 a5);obtain⟨c4,a4,g6,N,M,L⟩:=c8.w k n;obtain⟨f0,f1,f2,e0⟩:=fq a4;have e4:=au a4;have g4:=Nat.ne_of_lt e4;have e6:=bS N;have d3:=bS M;have b6:=bS L;dsimp only[dU.v,bA]at b6;have h6:=au N;have h5:=au M;have h4:=au L;dsimp only[lX]);refine l.out _ _ ?_ (λP=>?_)
 .go_keep
 clear l p;refine nz ?_;refine cx 8 λp l=>?_;go_simp;refine l.out _ _ ?_ (λP=>?_)
 .go_keep
 clear l p;refine nz ?_;refine cx 9 λp l=>?_;(refine mC TI underlying351 (c4 _) (mJ O) (heap_alloc_new k _) (Kk O) e3 Zx (H:=k.heap.size+1) Zq ?_;intro B f8 o c5 a7 b9 c2;obtain⟨c1,b5,b4,b3⟩:=c9.w k _ o n a7;obtain⟨f3,f4,f5,e1⟩:=fq c1;have e7:=bS b5;have d4:=bS b4;have b7:=bS b3;dsimp only[dU.v,bA]at b7);refine l.out _ _ ?_ (λP=>?_)
 .go_keep
 clear l p;refine nz ?_;refine bI [10,11] ?_;iterate 2 (refine bK ?_)
 refine bJ ?_;refine cw λp l=>?_;go_simp;refine l.out _ _ ?_;clear l p;refine nz ?_;have x:=aa (OC E w.w (((ao _ u).aU).u n) c6 c3 ((Below.refl k.heap.size k).alloc (Y4 _) _) c5 a7 (by simpa using b9) c2);have i1:=bS x.w.vr;clear n c6 c3 c5 a7 b9 c2 c1 b5 b4 b3 f3 f4 f5 e1 e7 d4 b7 a4 N M L f0 f1 f2 e0 c4 e6 d3 b6;go_wp21;refine(gS (du A (B::f)) _ x.w.rd).mono ?_;rintro z i4 ⟨a8,⟨i5,f6,b0,rfl,c7⟩|⟨d5,b0,f7,a2,rfl,a5⟩⟩;rotate_left
 .exact aE (pR (x.w.kp.u (a8.ak Zq)) x.w.kp ((yF F).trans (bR (cZ b0))) a2 a5)
 have d2:=aa (x.w.b3 E a8 c7);clear a8 c7;go_wp2;go_end0;exact Y8 ⟨B::f,(b++[O],e8),f6,(yF F).trans (bf (bF b0)),rfl,by simp[d1.w],_,d2.w⟩
end
section
variable {a d:Ad}{w:Zw}{b e:St}{c:Type}
theorem nr.fin{k l d c g r z q}(j:Rd a k e w)(f:nr a k w d c g r z q b l)(I:g.length<=12)
  {p:Except Mar.ay (aC×St)} (o:p=.ok (.struct c.1 c.2 g,b)):it [a.R,a.S,a.N] a k w p (.returned (Zp d.D)) l:=by
 have s:∀h,w.heap.size<=h->h ∉ a.X:=λh B v=>by have:=j.a3 _ v;omega
 have A:l.heap[d.D]? = some (.cells #[.string ⟨c.1.toArray⟩,U c.2,q] 353)/\d.D ∉ a.X:=⟨f.ap,s _ (f.aB _ (f.az _ (by simp[fe.a6])))⟩;refine⟨f.kp,Y8 ⟨.struct c.1 c.2 g,b,d.D,?_⟩⟩;rcases f.row.2 with⟨rfl,t⟩|⟨i,m,n,rfl,C,E,u,F,G,H⟩
 .have:g=[]:=Yv.1 t;subst this;refine⟨[(d.D,.cells #[.string ⟨c.1.toArray⟩,U c.2,.slice none 0 0] 353)],o,rfl,mx j.az f.rd,⟨.slice none 0 0,Yb,Y8 ⟨rfl,rfl,rfl⟩⟩,?_⟩;intro y x;simp_all
 .refine⟨[(d.D,.cells #[.string ⟨c.1.toArray⟩,U c.2,.slice (some ⟨i,0,none⟩) g.length m] 353),(i,.cells n 242)],o,rfl,mx j.az f.rd,⟨_,Yb,Ya ⟨i,m,n,rfl,⟨u,Zm⟩,Zq,?_⟩⟩,?_⟩
  .grind
  .intro y x;grind
def acW(args:Array Zv)(a:Zw):(callFunc 196 args).run prog a=.ok (.enter 196 args) a:=by
 kernel_rfl
def acd{d}(h:Rd a d e w)(b:fe)(k:Zb×Nat):zj (List aW×Zc) a d w 12 where
 f:=196
 jN:=#[Zp b.db,Zp b.rb,Zp b.cb]
 bb:=mc d b
 J:=Bo a d w b k
 d1:=acW
 rd:=by rintro _ _ _ _ _ ⟨_,_,c⟩;exact c.rd
 kp:=by rintro _ _ _ _ _ ⟨_,_,c⟩;exact c.kp
 b3:=by rintro _ _ _ _ _ _ _ ⟨g,l,c⟩ i j;exact⟨g,l,c.b3 h i j⟩
 call:=by
  grind [acV]
def kZ(d:PX c Unit)(e:c):PM c:=λb=>match d e b with
 |.ok (_,f,g)=>.ok (f,g)
 |.error a=>.error a
def tA{a:PX c Unit}{d e:c}{f:St}(g:a d b=.ok ((),e,f)):kZ a d b=.ok (e,f):=by simp only[kZ,g]
theorem yA{d:PX c Unit}{e a}(f:d e b=.error a):kZ d e b=.error a:=by simp only[kZ,f]
def lf(a:Za)(c:Nat):PM aC:=aM (lB c) λ_=>aM (iK a) λb=>aM (kZ (fp a 12 (mc a ⟨0,0,0,0,0,0⟩)) ([],[])) λd=>aM (cI a [59]) λ_=>ret (.struct b.1 b.2 d.1)
def WO(g:fW d a){e}(c:Nat)(f:Rd d e b w) :
  Calls prog 190 #[Zp a.R,U c] w (eR [a.R] d e w (lB c b) tJ):=by
 have:=AC c f;rw[g.1]at this;exact this
def JJ(c:fW d a){e}(f:Rd d e b w) :
  Calls prog 185 #[Zp a.R,.func (.func 186) #[Zp a.R] #[]] w (eR [a.S,a.N] d e w (iK e b) il):=by
 have:=yg f;rw[c.1,c.2.1,c.2.2.1]at this;exact this
def Rd.j8{h e}{q:Nat}(f:Rd a h b w)(g:Below w.heap.size w e)(i:w.heap.size<=q)(o:q<e.heap.size):Rd (a.a1 q) h b e:=by
 have c:=f.ah g;obtain⟨j,k,l,m⟩:=c.az;refine⟨c.me,c.sc,(f.nm.a1 i).ah g,⟨Y5 _ j,Y5 _ k,Y5 _ l,Y5 _ m⟩,?_,c.pr,c.np,c.gl,c.dO,c.bc⟩;intro n d;rcases Yg.1 d with rfl|d
 .omega
 .exact c.a3 n d
def acX{s}(z:Nat)(k:Rd a s b w) :
  Calls prog 122 #[Zp a.R,U z] w (it [a.R,a.S,a.N] a s w (lf s z b)):=by
 have e6:=je;have d2:=k.ae (.cells #[Zp a.R] 145);have E:=aQ (w:=w) (o:=.cells #[Zp a.R] 145) rfl;obtain⟨f2,f3,f4,f5⟩:=k.lt;have e0:=bS E;go_in;go_wp21;refine(WO (fX a _) z d2).mono ?_;rintro u d9 ⟨C,⟨f9,g4,l,rfl,d3⟩|⟨x,l,m,h,rfl,i⟩⟩;rotate_left
 .exact aE (eI (((ao _ w).H _).u (C.ak Zq)) ((ao [] w).H _) (bO l) h i)
 have A:an [a.R,a.S,a.N] w d9:=((ao _ w).H _).u (C.ak Zq);have F:=(C.L _ (au E) Zg).trans E;have e1:=bS F;go_wp21;refine(JJ (fX a _) d3).mono ?_;rintro u c ⟨D,⟨d,b2,r,rfl,d4⟩|⟨x,r,m,h,rfl,i⟩⟩;rotate_left
 .exact aE (eI (A.u (D.ak Zq)) A ((aK l).trans (bO r)) h i)
 have K:=A.u (D.ak (M':=[a.R,a.S,a.N]) Zq);have a8:=(D.L _ (au F) Zg).trans F;have c9:=au a8;dsimp only[il];go_wp21;obtain⟨g,p⟩:∃g,g=(c.alloc (.cells #[.string ⟨d.1.toArray⟩,U d.2,.slice none 0 0] 353)).alloc (.cells #[Zp c.heap.size] 229):=⟨_,rfl⟩;rw[<-p];have a7:(c.alloc (.cells #[.string ⟨d.1.toArray⟩,U d.2,.slice none 0 0] 353)).heap.size=c.heap.size+1:=Zq;have a6:=(d4.ae (.cells #[.string ⟨d.1.toArray⟩,U d.2,.slice none 0 0] 353)).ae (.cells #[Zp c.heap.size] 229);rw[a7,<-p]at a6;have e8:g.heap.size=c.heap.size+2:=Zu;have a1:an [] c g:=by rw[p];exact((ao [] c).H _).H _
 have H:g.heap[c.heap.size]? = some (.cells #[.string ⟨d.1.toArray⟩,U d.2,.slice none 0 0] 353):=by
  rw[p];exact(((ao [] _).H _).L _ Zm Zq).trans (aQ rfl)
 have P:g.heap[c.heap.size+1]? = some (.cells #[Zp c.heap.size] 229):=by
  rw[p];exact aQ a7.symm
 have a9:=(a1.L _ c9 Zq).trans a8;have c3:=K.u (a1.ak (M':=[a.R,a.S,a.N]) Zq);refine(zv _).mono ?_;rintro u e ⟨f,j,rfl,d1,e4,e7,J,O,b1⟩;have c8:f<e.heap.size:=by
  obtain⟨_,_,_,a4⟩:=id J;grind
 have d0:=au b1;have d5:=a6.j8 O d1 c8;have q:an [] g e:=bT [] O;have f0:=q.aD;have b0:=(q.L _ (au a9) Zq).trans a9;have I:=(q.L _ (au H) Zq).trans H;have a0:=(q.L _ (au P) Zq).trans P;have c4:=c3.u (q.ak (M':=[a.R,a.S,a.N]) Zq);have n:=(ao [] e).H (.cells #[(bA f j).v] 341);have e9:=K.aD;have B:nr a s w ⟨c.heap.size,w.heap.size,c.heap.size+1,e.heap.size,f,j⟩ d [] [e.heap.size,f,c.heap.size+1,c.heap.size,w.heap.size] [] (.slice none 0 0) b2 (e.alloc (.cells #[(bA f j).v] 341)):=by
  have d7:=(n.L _ (au b0) Zq).trans b0;have c1:=(n.L _ (au I) Zq).trans I;have c6:=(n.L _ (au a0) Zq).trans a0;refine⟨c4.H _,d5.ae _,?_,?_,?_,?_,?_,?_,c1,d7,c6,aQ rfl,⟨rfl,Y8 ⟨rfl,rfl⟩⟩⟩
  .intro m c5;simp[fe.a6]at c5 ⊢;omega
  .simp[fe.a6];omega
  .intro g3 d8;simp at d8;omega
  .intro e3 c7;cases c7
  .have c2:eC f [] e:=J;exact c2.ac n Zq
  .intro f6 a5;simp only[bA,Yc]at a5;subst a5;refine⟨(n.L _ d0 Zq).trans b1,?_⟩;simp[Ad.aw];refine⟨Zm,Zm,Zm,Zm,Zm,?_⟩;intro a4;have:=k.a3 _ a4;omega
 have b7:=bS B.vr;have b9:=bS B.vd;have b4:=aa B;dsimp only[dU.v,bA]at b7 b9 ⊢;go_wp21;have b3:Bo a s w ⟨c.heap.size,w.heap.size,c.heap.size+1,e.heap.size,f,j⟩ d 0 [e.heap.size,f,c.heap.size+1,c.heap.size,w.heap.size] ([],[]) b2 (e.alloc (.cells #[(bA f j).v] 341)):=⟨rfl,_,b4.w⟩;refine(Cs 12 (acd k ⟨c.heap.size,w.heap.size,c.heap.size+1,e.heap.size,f,j⟩ d) Zm b3).mono ?_;rintro u g0 (⟨b6,⟨e2,f8⟩,g5,y,rfl,f1,a2,e5,f7,L⟩|⟨x,y,a2,m,h,rfl,i⟩);rotate_left
 .exact aE ⟨a2,Ya ⟨x,(aK l).trans ((aK r).trans (bO (yA y))),m,h,rfl,i⟩⟩
 have b8:=bS L.vr;have t:=aa L;dsimp only at b8;go_wp21;refine(gS (du a b6) _ t.w.rd).mono ?_;rintro u g1 ⟨a3,⟨g2,g6,G,rfl,d6⟩|⟨x,G,m,h,rfl,i⟩⟩;rotate_left
 .exact aE (eI (t.w.kp.u (a3.ak Zq)) t.w.kp ((aK l).trans ((aK r).trans ((aK (tA y)).trans (bO G)))) h i)
 have M:=t.w.b3 k a3 d6;have c0:=bS M.vd;have b5:=aa M;dsimp only at c0;go_wp2;go_ret;exact b5.w.fin k Zm ((aK l).trans ((aK r).trans ((aK (tA y)).trans (aK G))))
end
def mK(a:Mar.aX):PM (List (Zb×Nat×Int)):=λb=>
 match aO b.K a.text with
 |some (some (.enum _ _ c))=>.ok (c,b)
 |_=>.error ⟨7,a.y⟩
theorem LU(a:Zw):(Instr.typeAssert .nilIface 157 227 true).run prog a=.ok (.tuple #[.pointer none,.bool false]) a:=Zk
def ada(a:Zv)(b:Zw):(Instr.typeAssert (.iface 227 a) 157 227 true).run prog b=.ok (.tuple #[a,.bool true]) b:=Zk
theorem ac9(c:aC)(f:Zv)(d:Zw)(h:∀b a v,c≠.enum b a v):(Instr.typeAssert (.iface (dI c) f) 157 227 true).run prog d=.ok (.tuple #[.pointer none,.bool false]) d:=by
 cases c with
 |enum b a v=>simp_all
 |typedef c=>kernel_rfl
 |const b a e=>kernel_rfl
 |struct b a e=>kernel_rfl
 |union b a j g=>kernel_rfl
 |prog b a k i=>kernel_rfl
def NP(d:Ad)(m:Za)(c:Zw)(j:St)(i:Except Mar.ay (List (Zb×Nat×Int)×St))(g:Ending)(a:Zw):Prop:=
 Below c.heap.size c a/\((∃l k h e f,i=.ok (h,j)/\g=.returned (Zp e)/\Rd d m j a/\fB f e (.enum l k h)/\bW d.X f a)\/(∃b,i=.error b/\fm c b.no b.y g a))
def RN{d x g}(a:Mar.aX){w}(n:Rd d x g w) :
  Calls prog 253 #[Zp d.R,dx a] w (NP d x w g (mK a g)):=by
 have i:=((Below.refl w.heap.size w).alloc (Y4 _) (.cells #[U a.F,Zs a.text,U a.n,U a.y] 154)).drew;obtain⟨I,J,K,L,M,P⟩:=n.al;have S:=n.lt.1;have k:=n.ah i;have key:(∃v,(Instr.lookup 148 (.map (some d.N)) (Zs a.text) false).run prog ((w.alloc (.cells #[U a.F,Zs a.text,U a.n,U a.y] 154)).drew)=.ok v ((w.alloc (.cells #[U a.F,Zs a.text,U a.n,U a.y] 154)).drew)/\
    (∀q,(Instr.typeAssert v 157 227 true).run prog q=.ok (.tuple #[.pointer none,.bool false]) q)/\mK a g=.error ⟨7,a.y⟩)\/
   (∃(e:Nat) (c:Zb) (b:Nat) (l:List (Zb×Nat×Int)) (f:Zo),(Instr.lookup 148 (.map (some d.N)) (Zs a.text) false).run prog ((w.alloc (.cells #[U a.F,Zs a.text,U a.n,U a.y] 154)).drew)=.ok (.iface 227 (Zp e)) ((w.alloc (.cells #[U a.F,Zs a.text,U a.n,U a.y] 154)).drew)/\
    bW d.X f ((w.alloc (.cells #[U a.F,Zs a.text,U a.n,U a.y] 154)).drew)/\fB f e (.enum c b l)/\mK a g=.ok (l,g)):=by
  rcases AA k.nm a.text false with⟨u,j⟩|⟨G,v,f,u,E,s,j⟩
  .simp_all[LU,mK]
  .simp only[Ye,if_false]at j
   cases G with
   |none=>
    have a0:v=.nilIface:=s;grind [LU,mK]
   |some B=>
    obtain⟨e,rfl,D⟩:=s;by_cases C:∃c b o,B=.enum c b o
    .obtain⟨c,b,o,rfl⟩:=C;exact Ya ⟨e,c,b,o,f,j,E,D,by simp only[mK,u]⟩
    simp_all[ac9,mK]
 rcases key with⟨v,j,F,h⟩|⟨e,c,b,l,f,j,t,r,h⟩
 .have m:=aa h;have p:=aa i;clear h k i;dsimp only[dx];go_in;go_wp2;go_region;go_wp2_with (go_at_call 70;refine(gZ _ _ _).mono ?_;rintro O a1 ⟨rfl,rfl⟩);refine aE ⟨?_,Ya ⟨⟨7,a.y⟩,m.w,w.heap.size+1,Zm,rfl,aQ (w:=w.alloc _) Zq⟩⟩;exact(((Below.refl w.heap.size w).alloc (Y4 _) _).alloc Zq _).drew
 .have m:=aa h;have F:=λH=>ada H;have p:=aa k;have y:=aa i;have A:=aa t;have z:=aa r;clear h k i t r;dsimp only[dx];go_in;go_wp2;go_region;go_wp2;go_ret;exact⟨y.w,Y8 ⟨c,b,l,e,f,m.w,rfl,p.w,z.w,A.w⟩⟩
section
variable {i:Nat}{a:List (Zb×Nat×Int)}{b:Int}{c:Zw}
def mR(a:List (Zb×Nat×Int))(b:Int):Bool:=a.any λc=>c.2.2==b
def Tn(c:i<a.length)(d:a[i].2.2=b):mR a b=true:=by
 grind [mR]
def To(c:∀i (d:i<a.length),a[i].2.2≠b):mR a b=false:=by
 grind [mR,List.getElem_of_mem]
theorem KV{d:Nat}{b e}{a:Zl}(g:c.heap[d]? = some (.cells b e))(j:b.toList.take a.length=a)(h:i<a.length):c.cell? (Zd d i)=some a[i]:=by
 have f:b.toList[i]? = some a[i]:=by
  grind
 grind [World.cell?]
def Ob{u l k v P}(b:Int)(D:fB l k (.enum P v a))(g:bW u l c) :
  Calls prog 254 #[Zp k,U b] c λw R=>w=.returned (.bool (mR a b))/\R=c:=by
 obtain⟨b5,O,B,a7,M,C⟩:=D;obtain⟨b1,b2,b3,_⟩:=fq (g _ B).1;rcases M with⟨rfl,y,_⟩|⟨x,S,a0,rfl,⟨a1,a8⟩,G,N⟩
 .have K:a=[]:=Yv.1 y;subst K;go_in;go_wp2;go_loopw [12] (λi j=>i=U 0/\j=c) (λ_ _=>0)
  case atStart=>simp
  case round=>
   obtain⟨rfl,rfl⟩:=hrel;go_wp2;go_ret;exact⟨rfl,rfl⟩
 .have H:=(g _ G).1;have L:∀i (f:i<a.length),∃h:Nat,c.cell? (Zd x i)=some (Zp h)/\c.cell? (Zd h 2)=some (U a[i].2.2):=by
   intro i f;have I:i<O.length:=Zm;have z:=KV H N (i:=i) Zu;rw[List.getElem_map]at z;have A:=(g _ (C i f I)).1;obtain⟨_,_,b6,_⟩:=fq A;simp_all
  have s:=aa L;go_in;go_wp2;go_loopw [12,6] (λi b4 j=>∃d:Nat,i=U d/\j=c/\d<=a.length/\∀e (n:e<a.length),e<d->a[e].2.2≠b) (λi _ _=>a.length-(intOf i).toNat)
  case atStart=>grind
  case round=>
   obtain⟨d,rfl,rfl,a6,p⟩:=hrel;rcases Yj d a.length with o|a2
   .obtain⟨h,a9,b0⟩:=s.w d o;have a3:(0:Int)<=↑d:=Zm;have a4:(↑d:Int) < ↑a.length:=Zm;have r:=aa p;by_cases E:a[d].2.2=b
    .have F:(a[d].2.2==b)=true:=Zg;have t:=aa (Tn o E);go_wp2;go_ret;exact⟨by rw[t.w];rfl,rfl⟩
    .have F:(a[d].2.2==b)=false:=Zu;go_wp2;refine⟨⟨d+1,Zr,trivial,Zm,?_⟩,Zz⟩;intro e n a5;rcases Yj e d with m|m
     .exact r.w e n m
     grind
   .have J:d=a.length:=Zm;subst J;have q:=aa (To λi f=>p i f f);go_wp2;go_ret;exact⟨by rw[q.w];rfl,rfl⟩
end
section
variable {b:Ad}{c:Nat}{d:Except Mar.ay ((Ty×(Int->Bool))×St)}{w a:Zw}
def la(c:Za)(a:Mar.aX):PM (Ty×(Int->Bool)):=
 if((a.F:Int)==1)then aM (mK a) λb=>ret (.named a.text a.y,mR b)
 else if a.text==Jk then ret (.plain 0,dV (-2147483648) 2147483647)
 else if a.text==Jb then aM (eu c Jk) λ_=>ret (.plain 1,dV 0 4294967295)
 else if a.text==Js then ret (.plain 4,dV 0 1)
 else gU 3 a.y
def oH(a:Za):PM (Ty×(Int->Bool)):=aM (next a) (la a)
def Ex{c}{a:Mar.aX}(d:((a.F:Int)==1)=true):la c a=aM (mK a) λb=>ret (.named a.text a.y,mR b):=by unfold la;simp_all
def sk2{b}{a:Mar.aX}(c:((a.F:Int)==1)=false)(d:(a.text==Jk)=true):la b a=ret (.plain 0,dV (-2147483648) 2147483647):=by simp_all[la]
theorem Lu{b}{a:Mar.aX}(c:((a.F:Int)==1)=false)(d:(a.text==Jk)=false)(e:(a.text==Jb)=true) :
  la b a=aM (eu b Jk) λ_=>ret (.plain 1,dV 0 4294967295):=by simp_all[la]
def sk4{b}{a:Mar.aX}(c:((a.F:Int)==1)=false)(d:(a.text==Jk)=false)(e:(a.text==Jb)=false)(f:(a.text==Js)=true) :
  la b a=ret (.plain 4,dV 0 1):=by simp_all[la]
def sk5{b}{a:Mar.aX}(c:((a.F:Int)==1)=false)(d:(a.text==Jk)=false)(e:(a.text==Jb)=false)(f:(a.text==Js)=false) :
  la b a=gU 3 a.y:=by simp_all[la]
def za(b:Ad)(h:Za)(w:Zw)(d:Except Mar.ay ((Ty×(Int->Bool))×St))(f:Ending)(a:Zw):Prop:=
 an [b.S] w a/\((∃e g v,d=.ok (e,g)/\f=.returned (.tuple #[cW e.1,v])/\Rd b h g a/\iS b.X v e.2 a)\/(∃c,d=.error c/\fm w c.no c.y f a))
theorem zb{f}{ty:Ty}{c:Int->Bool}{e:St}{v}
  (i:an [b.S] w a) (j:d=.ok ((ty,c),e)) (g:Rd b f e a) (h:iS b.X v c a):za b f w d (.returned (.tuple #[cW ty,v])) a:=⟨i,Y8 ⟨(ty,c),e,v,j,rfl,g,h⟩⟩
def zc{M' k w1 f}
  (h:an [b.S] w a) (i:an M' w w1) (j:d=.error f) (e:w1.heap.size<=c) (g:a.heap[c]? = some (.cells #[U f.no,U f.y] 179)) :
  za b k w d (.panicked [{ v:=.iface 143 (Zp c),recovered:=false }]) a:=⟨h,Ya ⟨f,j,c,Yz i.aD e,rfl,g⟩⟩
def Oc(args:Array Zv)(a:Zw):(callFunc 254 args).run prog a=.ok (.enter 254 args) a:=Zk
def SH{b a e j d}(g:fB a c (.enum j e d))(h:bW b a w) :
  iS b (.func (.func 254) #[Zp c] #[]) (mR d) w:=by
 refine⟨a,_,_,_,rfl,h,Oc,λk f i=>?_⟩;refine(Ob i g f).mono ?_;simp_all[Below.refl]
def nB{d e a b:Zv}{f}(g:w.heap[c]? = some (.cells #[d,e,a,b] f)) :
  w.cell? (Zd c 0)=some d/\w.cell? (Zd c 1)=some e/\w.cell? (Zd c 2)=some a/\w.cell? (Zd c 3)=some b:=by
 simp_all[World.cell?]
def abo{v F}(x:Rd b v F w) :
  Calls prog 197 #[Zp b.R] w (za b v w (oH v F)):=by
 have b3:=je;obtain⟨a7,a8,a9,b0,b1,b2⟩:=x.al;have G:=aa (uO x);go_in;go_wp21;refine G.w.mono ?_;rintro i g ⟨z,⟨d,c8,t,rfl,B⟩|⟨q,t,c,j,rfl,k⟩⟩;rotate_left
 .exact aE (zc z (ao [] _) (bO t) j k)
 have f:=aa z;have Hx:=aa t;have h:=aa (B.ah ((Below.refl ..).alloc (Y4 _) (.cells #[U d.F,Zs d.text,U d.n,U d.y] 154)));have O:=aQ (w:=g) (o:=.cells #[U d.F,Zs d.text,U d.n,U d.y] 154) rfl;have p:=aa O;have a3:=aa B.a3;dsimp only[dx];go_wp2_with (first
  |(go_at_call 70;refine(gZ _ _ _).mono ?_;rintro i a ⟨rfl,rfl⟩)
  |(go_at_call 189;refine(vl _ _ _).mono ?_;rintro i a1 ⟨c0,rfl,e,r⟩)
  |(go_at_call 192;refine(xr _ h.w).mono ?_;rintro i a0 ⟨A,⟨a2,c9,E,rfl,C⟩|⟨q,E,c,j,rfl,k⟩⟩))
 .have y:((d.F:Int)==1)=true:=‹_›;obtain⟨c4,c5,c6,c7⟩:=nB p.w;have N:=au p.w;go_region_held2 (λa=>a.cell? (Zd g.heap.size 0)=some (U d.F)/\a.cell? (Zd g.heap.size 1)=some (Zs d.text)/\a.cell? (Zd g.heap.size 2)=some (U d.n)/\a.cell? (Zd g.heap.size 3)=some (U d.y)) (go_keep)
   (first
    |(go_at_call 243;refine(ES d _).mono ?_;rintro i a0 ⟨rfl,l⟩;have s:=(l.block _ N).trans p.w;obtain⟨c1,c2,a2,c3⟩:=nB s;have M:=au s;have I:=aa ((h.w.ah (Below.refl ..).drew).ah l);have m:=aa ((f.w.H _).aU.u (bT _ l));clear l)
    |(go_at_call 253;refine(RN d I.w).mono ?_;rintro i a1 ⟨e,⟨b9,a4,b4,a5,a6,u,rfl,D,K,L⟩|⟨q,u,c,j,rfl,k⟩⟩;rotate_left;exact aE (zc (m.w.u (bT _ e)) m.w ((aK Hx.w).trans (by rw[Ex y];exact bO u)) j k);have P:=(e.block _ M).trans s;obtain⟨b5,b6,b7,b8⟩:=nB P;have H:=aa (m.w.u (bT _ e));have J:=aa D;clear e D))
  all_goals
   go_wp2
   go_ret2
   exact zb (ty:=.named d.text d.y) H.w ((aK Hx.w).trans (by rw[Ex y];exact aK u)) J.w (SH K L)
 .go_ret2;exact zb (ty:=.plain 0) ((f.w.H _).u (bT _ e)) ((aK Hx.w).trans (by rw[sk2 ‹_› ‹_›];rfl)) (h.w.ah e) (r _ h.w.a3)
 .go_ret2;exact zb (ty:=.plain 1) (((f.w.H _).u A).u (bT _ e)) ((aK Hx.w).trans (by rw[Lu ‹_› ‹_› ‹_›];exact aK E)) (C.ah e) (r _ C.a3)
 .exact aE (zc ((f.w.H _).u A) (f.w.H _) ((aK Hx.w).trans (by simp_all[Lu,bO])) j k)
 .go_ret2;exact zb (ty:=.plain 4) ((f.w.H _).u (bT _ e)) ((aK Hx.w).trans (by rw[sk4 ‹_› ‹_› ‹_› ‹_›];rfl)) (h.w.ah e) (r _ h.w.a3)
 .exact aE (zc (M':=[b.S]) (w1:=g) (f:=⟨3,d.y⟩) ((f.w.H _).H _) f.w ((aK Hx.w).trans (by rw[sk5 ‹_› ‹_› ‹_› ‹_›];rfl)) Zm (aQ Zq))
end
section
variable {A:Ad}{c:List Nat}{cs:List Int}{g b:Nat}{l:List (Int×Int)}{p:Int->Bool}{d:Zv}{u u' a:Zw}{e h i:St}
def HV:(prog.info? 2).map (λa=>(a.zero,a.size,a.bytes))=some (some (U 0),1,8):=Zk
def ja(a:Za)(p:Int->Bool):Nat->List Int->PX (List (Int×Int)) (List Int)
 |0,_=>lift (gU 0 0)
 |k+1,cs=>aP (lift (cI a [99,97,115,101])) λc l=>aP (lift (ft l.length 12 c.y)) (λ_=>aP (hx a p) λb=>aP (lift (cI a [58])) λ_=>
   aP (lift (iE a Jg)) λd=>if d then ja a p k (cs++[b])else dA (cs++[b])) l
def cases(a:Za)(p:Int->Bool):PX (List (Int×Int)) (List Int):=ja a p 13 []
def iS.a9{a v b}(h:iS a v p u)(o:u.grownBy u' b)(q:∀c,b=some c->c∈a)(n:b=some g\/g=u.heap.size):iS (g::a) v p u':=by
 obtain⟨e,f,t,s,i,j,k,l⟩:=h;exact⟨e,f,t,s,i,j.a9 o q n,k,λd m=>l d (m.bE λ_ r=>Y5 _ r)⟩
structure lk(A:Ad)(text:Za)(a:Zw)(b:Nat)(v:Zv)(p:Int->Bool)(cs:List Int)(c:List Nat)(l:List (Int×Int))(d:Zv)(e:St)(u:Zw):Prop where
 kp:an [A.S,b] a u
 rd:Rd (A.aw c) text e u
 aB:∀y∈c,a.heap.size<=y
 ae:∀g,d.ownBlock=some g->g∈c
 aR:dH b l u
 gD:iS (A.aw c).X v p u
 row:u.ownsRow a.heap.size 2 1 d cs.length (cs.map λn=>U n)
def lk.cS{i v}(h:lk A i a b v p cs c l d e u):∃ad f,d=.slice ad cs.length f:=by
 rcases h.row.2 with⟨rfl,k⟩|⟨g,f,j,rfl,_⟩;all_goals simp_all
def lk.bk{g v}(f:dK A b)(_m:lk A g a b v p cs c l d e u):dK (A.aw c) b:=
 ⟨Ym _ f.1,f.2.1,f.2.2.1,f.2.2.2.1,f.2.2.2.2⟩
def lk.b3{k v}(o:Rd A k i a)(r:dK A b)(f:lk A k a b v p cs c l d e u)(j:an [A.S] u u')(m:Rd (A.aw c) k h u') :
  lk A k a b v p cs c l d h u':=by
 obtain⟨s,t,w,x⟩:=o.lt;refine⟨f.kp.u (j.ak Zq),m,f.aB,f.ae,f.aR.ac j (by simp;exact r.2.2.1),f.gD.ac j (by intro y n;simp only[Yc]at n;subst n;exact m.az.2.1),bw f.row j ?_⟩;intro g q;have:=f.aB _ (f.ae g q);grind
def lk.ah{h v}(m:lk A h a b v p cs c l d e u)(g:Below u.heap.size u u'):lk A h a b v p cs c l d e u':=by
 have f:=bT [] g;exact⟨m.kp.u (f.ak Zq),m.rd.ah g,m.aB,m.ae,m.aR.ac f Zq,m.gD.ac f Zq,bw m.row f Zq⟩
theorem Np{o}{m q r:Zw}{x v H}{n:Int}(y:Rd A o i a)(D:dK A b)
  (k:lk A o a b v p cs c l d e u) (B:an [A.S,b] u m) (E:Rd (A.aw c) o h m) (K:dH b H m) (j:Below m.heap.size m q)
  (L:r.ownsRow a.heap.size 2 1 (.slice (some ⟨g,0,none⟩) (cs.length+1) x) (cs.length+1) ((cs.map λn=>U n)++[U n]))
  (s:q.grownBy r d.ownBlock) (z:d.ownBlock=some g\/g=q.heap.size) (J:g<r.heap.size) :
  lk A o a b v p (cs++[n]) (g::c) H (.slice (some ⟨g,0,none⟩) (cs.length+1) x) h r:=by
 obtain⟨O,_⟩:=hR L (g:=g) rfl;have F:∀f,d.ownBlock=some f->a.heap.size<=f/\f∈(A.aw c).X:=λf j=>⟨k.aB _ (k.ae f j),Yf _ (k.ae f j)⟩;have C:=gt s;have t:an [] m q:=bT _ j;have P:=y.a3 _ D.1;have I:∀M∈[A.S,b],M∈(A.aw c).X:=by
  intro R G;simp at G;rcases G with rfl|rfl
  .exact E.az.2.1
  .exact Ym _ D.1
 refine⟨?_,vG y (du A c) (E.ah j) s F z J,?_,?_,?_,?_,?_⟩
 .refine((k.kp.u B).b1 t Zq).b1 C ?_;simp_all
 .intro N w;rcases Yg.1 w with rfl|w
  .omega
  .exact k.aB N w
 .grind [Value.ownBlock]
 .refine(K.ac t Zq).ac C ?_;grind
 .exact((k.gD.ac B I).ac t Zq).a9 s (λf j=>(F f j).2) z
 simp_all
def re(A:Ad)(l:Za)(a:Zw)(b:Nat)(j:Except Mar.ay (List Int×List (Int×Int)×St))(g:Ending)(c:Zw):Prop:=
 an [A.S,b] a c/\((∃cs i h d f,j=.ok (cs,i,h)/\g=.returned d/\Rd A l h c/\dH b i c/\hn f 2 d cs.length (cs.map λk=>U k)/\bW A.X f c)\/(∃e,j=.error e/\fm a e.no e.y g c))
def wY{M' l w1 d}{e:Except Mar.ay (List Int×List (Int×Int)×St)}{f}{c:Nat}
  (i:an [A.S,b] a d) (j:an M' a w1) (k:e=.error f) (g:w1.heap.size<=c) (h:d.heap[c]? = some (.cells #[U f.no,U f.y] 179)) :
  re A l a b e (.panicked [{ v:=.iface 143 (Zp c),recovered:=false }]) d:=⟨i,Ya ⟨f,k,c,Yz j.aD g,rfl,h⟩⟩
theorem lk.fin{k v}(j:Rd A k i a)(f:lk A k a b v p cs c l d e u)(F:cs.length<=12)
  {o:Except Mar.ay (List Int×List (Int×Int)×St)} (n:o=.ok (cs,l,e)):re A k a b o (.returned d) u:=by
 have x:∀h,a.heap.size<=h->h ∉ A.X:=λh y t=>by have:=j.a3 _ t;omega
 refine⟨f.kp,Y8 ⟨cs,l,e,d,?_⟩⟩;rcases f.row.2 with⟨rfl,r⟩|⟨g,q,m,rfl,z,B,s,C,D,E⟩
 .have:cs=[]:=Yv.1 r;subst this;exact⟨[],n,rfl,mx j.az f.rd,f.aR,Y8 ⟨rfl,rfl,rfl⟩,by intro p w;grind⟩
 .refine⟨[(g,.cells m 2)],n,rfl,mx j.az f.rd,f.aR,Ya ⟨g,q,m,rfl,⟨s,Zm⟩,Zq,?_⟩,?_⟩
  .simp_all
  .intro p w;simp_all
end
section
variable {b:List Int}{c:List (Int×Int)}{a:Int->Bool}{d:Nat}{f:Zw}{e g:St}
def Aj:Zv->Nat
 |.slice _ a _=>a
 |_=>0
def zF(c:Za)(a:Int->Bool)(e:Nat)(b:List Int):PX (List (Int×Int)) (List Int):=aP (hx c a) λd=>aP (lift (cI c [58])) λ_=>
   aP (lift (iE c Jg)) λf=>if f then ja c a e (b++[d])else dA (b++[d])
theorem zC{f}{h:Nat}{d}(g:cI f Jg e=.error d):ja f a (h+1) b c e=.error d:=by
 simp only[ja];exact bR (cZ g)
def zD{f}{j:Nat}{d:Mar.aX}(h:cI f Jg e=.ok (d,g))(i:12<=c.length):ja f a (j+1) b c e=.error ⟨5,d.y⟩:=by
 simp only[ja];exact(bf (bF h)).trans (bR (cZ (show ft c.length 12 d.y g=_ from Y9 i)))
def zE{d}{f:Nat}{h:Mar.aX}(i:cI d Jg e=.ok (h,g))(j:¬12<=c.length):ja d a (f+1) b c e=zF d a f b c g:=by
 simp only[ja];exact(bf (bF i)).trans (bf (bF (show ft c.length 12 h.y g=_ from Y2 j)))
theorem DO{j}{i:List (Int×Int)}{m:St}{l:Int}(b:hx j a c e=.ok (l,i,m)):i.length=c.length+1:=by
 unfold hx at b;cases h:jG j a e with
 |error k=>rw[bR (cZ h)]at b;cases b
 |ok d=>
  obtain⟨d,g⟩:=d;rw[bf (bF h)]at b;cases f:nC d.1 d.2 c ⟨6,d.2⟩with
  |error k=>rw[bR (wx f)]at b;cases b
  |ok n=>
   rw[bf (wy f)]at b;simp only[dA]at b;cases b
   unfold nC at f;split at f<;>cases f;simp
def Kf(e:dH d c f)(b:TypeId):(Builtin.len_ #[149] b #[.map (some d)]).run prog f=.ok (U c.length) f:=by
 have g:f.heap[d]? = some (.map (c.mapIdx λh a=>(⟨U a.1,U a.2,h⟩:MapEntry)).toArray c.length):=e;have:=run_len_map (P:=prog) f 149 b d _ _ Zk g;rw[this];simp[goInt]
def PH{h g v j}(m:Rd h g e f)(b2:iS h.X v a f)(t:dK h d)(b7:dH d j f) :
  Calls prog 199 #[Zp h.R,.map (some d),v] f (re h g f d (cases g a j e)):=by
 have a7:af (lk h g f d v a [] [] j (.slice none 0 0) e f):=⟨ao ..,m,Zq,(by intro s J;cases J),b7,b2,⟨rfl,Y8 ⟨rfl,rfl⟩⟩⟩;go_in;go_wp2;go_loopw [7,8] (λM r c5=>∃(F:Bool) (b:List Int) (o:List Nat) (c:List (Int×Int)) (G:St),r=.bool F/\b.length<=12/\b.length<=c.length/\af (lk h g f d v a b o c M G c5)/\
   af (cases g a j e=(if F then ja g a (13-b.length) b else dA b) c G)) (λM _ _=>13-Aj M)
 case atStart=>exact⟨true,[],[],j,e,rfl,Zq,Zq,a7,rfl⟩
 case round=>
  obtain⟨F,b,o,c,G,rfl,b5,a0,q,a5⟩:=hrel;obtain⟨ad,a9,rfl⟩:=q.w.cS;cases F with
  |false=>
   go_wp2;go_ret;exact q.w.fin m b5 a5.w
  |true=>
   have I:af (cases g a j e=ja g a ((12-b.length)+1) b c G):=by
    grind
   go_wp21;refine(gS (du h o) _ q.w.rd).mono ?_;rintro w c7 ⟨P,⟨x,c9,D,rfl,c2⟩|⟨B,D,r,k,rfl,l⟩⟩;rotate_left
   .exact(show bodyPost prog Tryz.f199 (re h g f d (cases g a j e)) (Exit.panic _) _ c7 from aE (wY (q.w.kp.u (P.ak Zq)) q.w.kp (I.w.trans (zC D)) k l))
   have i:=aa ((q.w.b3 m t P c2).ah ((Below.refl ..).alloc (Y4 _) (.cells #[U x.F,Zs x.text,U x.n,U x.y] 154)));have d6:=Kf i.w.aR;dsimp only[dx];go_wp21;by_cases N:12<=c.length
   .refine(uV _ _ _ _ Zm).mono ?_;rintro w a2 ⟨⟨r,k,rfl,l⟩,b1⟩;exact(show bodyPost prog Tryz.f199 (re h g f d (cases g a j e)) (Exit.panic _) _ a2 from aE (wY (f:=⟨5,x.y⟩) (i.w.kp.u (bT _ b1)) i.w.kp (I.w.trans (zD D N)) k l))
   refine(uW _ _ _ _ Zm).mono ?_;rintro w a2 ⟨rfl,rfl⟩;have y:af (cases g a j e=zF g a (12-b.length) b c c9):=I.w.trans (zE D N);go_wp21;refine(Ka (du h o) i.w.rd i.w.gD (i.w.bk t) i.w.aR).mono ?_;rintro w n ⟨C,⟨p,a1,e0,u,rfl,c3,b8⟩|⟨B,u,r,k,rfl,l⟩⟩;rotate_left
   .exact(show bodyPost prog Tryz.f199 (re h g f d (cases g a j e)) (Exit.panic _) _ n from aE (wY (i.w.kp.u C) i.w.kp (y.w.trans (bR u)) k l))
   dsimp only[kW];have b9:∀L,(n.alloc L).ownsRow f.heap.size 2 1 (.slice ad b.length a9) b.length (b.map λp=>U p):=by
    intro L;refine bw (bw i.w.row C ?_) ((ao [] n).H L) Zq;intro s J;have d1:=i.w.aB _ (i.w.ae s J);have d2:=m.a3 _ t.1;have d3:=m.lt.2.1;simp;omega
   have d7:f.heap.size<=n.heap.size:=Yz i.w.kp.aD C.aD;have b4:(b.length+1)*8<=140737488355328:=Zm;have d5:=DO u;have b0:=aa a0;go_wp2_with (first
    |(at_builtin;refine kl HV underlying245 (b9 _) [.int .i64 p] (heap_alloc_new n _) Zy b4 Zx (H:=n.heap.size+1) Zq ?_;intro s d0 d8 c0 b3 d4 b6))
   have z:=aa (Np m t i.w C c3 b8 ((Below.refl n.heap.size n).alloc (Y4 _) _) c0 b3 Zu b6);refine(gS (du h (s::o)) _ z.w.rd).mono ?_;rintro w c8 ⟨S,⟨d9,e1,E,rfl,c4⟩|⟨B,E,r,k,rfl,l⟩⟩;rotate_left
   .exact(show bodyPost prog Tryz.f199 (re h g f d (cases g a j e)) (Exit.panic _) _ c8 from aE (wY (z.w.kp.u (S.ak Zq)) z.w.kp (y.w.trans ((bf u).trans (bR (cZ E)))) k l))
   have A:=aa (z.w.b3 m t S c4);dsimp only[dx];go_wp21;refine(Bh (du h (s::o)) _ A.w.rd).mono ?_;rintro w c6 ⟨O,⟨a3,a4,K,rfl,c1⟩|⟨B,K,r,k,rfl,l⟩⟩;rotate_left
   .exact(show bodyPost prog Tryz.f199 (re h g f d (cases g a j e)) (Exit.panic _) _ c6 from aE (wY (A.w.kp.u (O.ak Zq)) A.w.kp (y.w.trans ((bf u).trans ((bf (bF E)).trans (bR (cZ K))))) k l))
   have a8:=aa (A.w.b3 m t O c1);have a0:=b0.w;have a6:af (cases g a j e=(if a3=true then ja g a (13-(b++[p]).length) (b++[p])else dA (b++[p])) a1 a4):=by
    refine y.w.trans ((bf u).trans ((bf (bF E)).trans ((bf (bF K)).trans ?_)));simp
   go_wp2;exact⟨⟨a3,b++[p],s::o,a1,a4,rfl,Zg,Zu,a8,a6⟩,by simp[Aj];omega⟩
end
end Go.Proofs.YtjdhaegijjednaaGreatDoor
