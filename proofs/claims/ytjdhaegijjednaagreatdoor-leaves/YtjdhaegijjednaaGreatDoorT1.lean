import Derived.Shelf.Strings.Builder1
import Derived.Shelf.Small.Strs
import Derived.Shelf.Small.Wraps
import Derived.Shelf.Strings.BuilderF
import Derived.Shelf.Strings.BuilderK
import Derived.Shelf.Strconv.Itoa0
import Derived.Shelf.Strconv.Itoa1
import Derived.Shelf.LaysM
import Derived.Shelf.Strconv.Itoa2
import Derived.Shelf.Strconv.Itoa3
import Derived.Shelf.Strconv.Itoa4
import Derived.Shelf.Strconv.ParseIntEmpty
import Derived.Shelf.Strconv.Clone
import Derived.Shelf.Strconv.SyntaxError
import Derived.Shelf.LaysC
import Derived.Shelf.Strconv.ToError
import Derived.Shelf.Strconv.Lower
import Derived.Shelf.Strconv.ParseUint10
import Derived.Shelf.Strconv.ParseUint10Empty
import Derived.Shelf.Strconv.ParseUint10Any
import Derived.Shelf.Strconv.ParseInt10
import Derived.Shelf.Strconv.RangeError
import Derived.Shelf.Strconv.ToErrorRange
import Derived.Shelf.Strconv.ParseUintEmpty
import Derived.Shelf.Strconv.ParseUint10b64
import Derived.Shelf.Strconv.ParseUint10b32
import Derived.Shelf.Strconv.ParseUint10b16
import Derived.Shelf.Strconv.ParseUint10b8
import Derived.Shelf.Strconv.ParseUint10At
import Derived.Shelf.Strconv.ParseInt10At64
import Derived.Shelf.Strconv.ParseInt10At32
import Derived.Shelf.Strconv.ParseInt10At16
import Derived.Shelf.Strconv.ParseInt10At8
import Derived.Shelf.Strconv.ParseInt10All
import Derived.Shelf.Strconv.ParseIntPublic10
import Derived.Shelf.Strconv.ErrVarParseInt
import Derived.Shelf.Strings.Search1
import Derived.Shelf.Strings.Search2
import Derived.Shelf.Strings.Cut
import Derived.Shelf.Strings.Shaped
import Derived.Shelf.Strings.Prefix
import Derived.Test.YtjdhaegijjednaaGreatDoorProg
import Derived.WalkKit
import GoSem.Claim
import Derived.Lib.IndexMore
import Derived.Lib.Strings
import Derived.Lib.ParseIntBCases
import Derived.WalkSpells
import Derived.Deep.AppendLies
import Derived.OwnWalk
import Derived.WalkSmall
import Derived.Deep.CutBlock
import Derived.Deep.DeepCutAuto
import Derived.Lib.AtoiErrMem
import Derived.Lib.ConvBytes
import Derived.Lib.Hide
import Derived.Lib.AtoiAllMem
import Derived.BigCall
import Derived.BigGuard
import Derived.Deep.RegionHeld3
import Derived.Deep.RegionHeld2
import Derived.Deep.QuietTactic
import Derived.BigQuiet
import Derived.MapKept
import Derived.Deep.RegionLaw
import Derived.Laws.EntriesVeiled
set_option linter.all false
set_option maxRecDepth 100000
set_option maxHeartbeats 4000000
namespace Go.Proofs
open Go.Shelf
def Tryz.lays137_ren:Go.Shelf.Ren:=⟨fun | 137=>236 | 217=>262 | 266=>272 | n=>n,fun | 9=>9 | 5=>5 | 3=>3 | n=>n,fun | n=>n⟩
theorem Tryz.lays137:Go.Proofs.Lays.n137 Tryz.prog Tryz.lays137_ren:=by repeat' first | kernel_rfl | decide | intro _ | constructor
open Go.RowKit in
theorem Tryz.strings_IndexByte (s:ByteArray) (c:Int) (w:World) :
  Calls Tryz.prog 236 #[.string s,.int .u8 c] w fun e w'=>e = .returned (.int .i64 (Lib.indexByte s.data.toList c.toNat.toUInt8))∧w'=w:=Any.strings_IndexByte Tryz.lays137 s c w
def Tryz.lays210_ren:Go.Shelf.Ren:=⟨fun | 210=>270 | 206=>276 | n=>n,fun | 9=>9 | 4=>4 | 3=>3 | n=>n,fun | n=>n⟩
def Tryz.lays103_ren:Go.Shelf.Ren:=⟨fun | 103=>260 | 210=>270 | 206=>276 | n=>n,fun | 9=>9 | 4=>4 | 24=>42 | 3=>3 | n=>n,fun | n=>n⟩
theorem Tryz.lays103:Go.Proofs.Lays.n103 Tryz.prog Tryz.lays103_ren:=by repeat' first | kernel_rfl | decide | intro _ | constructor
open Go.RowKit in
theorem Tryz.strings_CutPrefix (s p:ByteArray) (w:World) :
  Calls Tryz.prog 260 #[.string s,.string p] w fun e w'=>e = .returned (.tuple #[.string ⟨(Lib.trimPrefix s.data.toList p.data.toList).toArray⟩,.bool (Lib.hasPrefix s.data.toList p.data.toList)])∧w'=w:=Any.strings_CutPrefix Tryz.lays103 s p w
def Tryz.laysM316_ren:Go.Shelf.Ren:=⟨fun | 316=>266 | n=>n,fun | 9=>9 | 3=>3 | 4=>4 | 37=>97 | 0=>0 | 127=>319 | 5=>5 | n=>n,fun | n=>n⟩
theorem Tryz.laysM316:Go.Proofs.LaysM.n316 Tryz.prog Tryz.laysM316_ren:=by repeat' first | kernel_rfl | decide | intro _ | constructor
open Go.RowKit in
theorem Tryz.stringslite_Clone (s:ByteArray) (w:World) (hlim:s.size≤281474976710656) :
  Calls Tryz.prog 266 #[.string s] w fun e w'=>e = .returned (.string s)∧Below w.heap.size w w':=Any.stringslite_Clone Tryz.laysM316 s w hlim
def Tryz.laysC245_ren:Go.Shelf.Ren:=⟨fun | 245=>279 | 279=>287 | 280=>288 | 281=>289 | 282=>290 | 316=>266 | 171=>293 | 205=>292 | 243=>294 | 246=>295 | 283=>296 | 284=>297 | 285=>298 | 286=>299 | 129=>301 | 317=>300 | 318=>302 | 319=>303 | 320=>304 | 337=>305 | 338=>306 | n=>n,fun | 9=>9 | 3=>3 | 75=>55 | 167=>467 | 4=>4 | 168=>469 | 210=>475 | 37=>97 | 0=>0 | 127=>319 | 145=>479 | 143=>477 | 2=>2 | 171=>481 | 53=>421 | 5=>5 | 173=>484 | 212=>486 | 51=>218 | 20=>20 | 213=>487 | 46=>332 | 232=>490 | 233=>491 | 80=>70 | n=>n,fun | 15=>3 | 16=>4 | 17=>5 | 18=>6 | 19=>7 | n=>n⟩
theorem Tryz.laysC245:Go.Proofs.LaysC.n245 Tryz.prog Tryz.laysC245_ren:=by repeat' first | kernel_rfl | decide | intro _ | constructor
open Go.RowKit in
theorem Tryz.strconv_toError_syntax (fn s:ByteArray) (base bits:Int) (ev:Value) (w:World) (hlim:s.size≤281474976710656) (hv:w.cell? ⟨3,0,none⟩=some ev) (hev:ev = .nilIface∨∃ te pe,ev = .iface te pe) :
  Calls Tryz.prog 279 #[.string fn,.string s,.int .i64 base,.int .i64 bits,.iface 467 (.int .i64 2)] w fun e w'=>∃ N,e = .returned (.iface 469 (.pointer (some ⟨N,0,none⟩)))∧w.heap.size≤N∧w'.heap[N]? = some (.cells #[.string fn,.string s,ev] 475 (0,0))∧Below w.heap.size w w':=Any.strconv_toError_syntax Tryz.laysC245 fn s base bits ev w hlim hv hev
def Tryz.lays321_ren:Go.Shelf.Ren:=⟨fun | 321=>285 | n=>n,fun | 5=>5 | n=>n,fun | n=>n⟩
theorem Tryz.lays321:Go.Proofs.Lays.n321 Tryz.prog Tryz.lays321_ren:=by repeat' first | kernel_rfl | decide | intro _ | constructor
open Go.RowKit in
theorem Tryz.internal_strconv_lower (c:Int) (w:World) :
  Calls Tryz.prog 285 #[.int .u8 c] w fun e w'=>e = .returned (.int .u8 (bits .or .u8 c 32))∧w'=w:=Any.internal_strconv_lower Tryz.lays321 c w
def Tryz.lays287_ren:Go.Shelf.Ren:=⟨fun | 287=>278 | 321=>285 | 322=>286 | n=>n,fun | 9=>9 | 3=>3 | 53=>421 | 75=>55 | 4=>4 | 167=>467 | 5=>5 | 46=>332 | 37=>97 | 0=>0 | 21=>21 | 80=>70 | n=>n,fun | n=>n⟩
theorem Tryz.lays287:Go.Proofs.Lays.n287 Tryz.prog Tryz.lays287_ren:=by repeat' first | kernel_rfl | decide | intro _ | constructor
open Go.RowKit in
theorem Tryz.internal_strconv_ParseUint_empty (base bits:Int) (w:World) :
  Calls Tryz.prog 278 #[.string ⟨#[]⟩,.int .i64 base,.int .i64 bits] w fun e w'=>e = .returned (.tuple #[.int .u64 0,.iface 467 (.int .i64 2)])∧w'=w:=Any.internal_strconv_ParseUint_empty Tryz.lays287 base bits w
def Tryz.laysC174_ren:Go.Shelf.Ren:=⟨fun | 174=>275 | 247=>281 | 245=>279 | 287=>278 | 279=>287 | 280=>288 | 281=>289 | 282=>290 | 321=>285 | 322=>286 | 316=>266 | 171=>293 | 205=>292 | 243=>294 | 246=>295 | 283=>296 | 284=>297 | 285=>298 | 286=>299 | 129=>301 | 317=>300 | 318=>302 | 319=>303 | 320=>304 | 337=>305 | 338=>306 | n=>n,fun | 9=>9 | 3=>3 | 2=>2 | 75=>55 | 85=>463 | 4=>4 | 167=>467 | 5=>5 | 53=>421 | 175=>460 | 46=>332 | 168=>469 | 37=>97 | 0=>0 | 210=>475 | 21=>21 | 127=>319 | 145=>479 | 143=>477 | 171=>481 | 173=>484 | 212=>486 | 51=>218 | 20=>20 | 213=>487 | 232=>490 | 233=>491 | 80=>70 | n=>n,fun | 15=>3 | 16=>4 | 17=>5 | 18=>6 | 19=>7 | n=>n⟩
theorem Tryz.laysC174:Go.Proofs.LaysC.n174 Tryz.prog Tryz.laysC174_ren:=by repeat' first | kernel_rfl | decide | intro _ | constructor
open Go.RowKit in
theorem Tryz.strconv_ParseInt_10_at64_ok (s:ByteArray) (hmax:s.size≤9223372036854775806) (v:Int) (h:Lib.parseIntB 64 s.data.toList = .ok v) (w:World) :
  Calls Tryz.prog 275 #[.string s,.int .i64 10,.int .i64 64] w fun e w'=>e = .returned (.tuple #[.int .i64 v,.nilIface])∧(w'=w∨∃ t,w'=Lib.bytesWorld w 5 t):=Any.strconv_ParseInt_10_at64_ok Tryz.laysC174 s hmax v h w
open Go.RowKit in
theorem Tryz.strconv_ParseInt_10_at64_syntax (s:ByteArray) (hlim:s.size≤281474976710656) (h:Lib.parseIntB 64 s.data.toList = .«syntax») (ev:Value) (w:World) (hv:w.cell? ⟨3,0,none⟩=some ev) (hev:ev = .nilIface∨∃ te pe,ev = .iface te pe) :
  Calls Tryz.prog 275 #[.string s,.int .i64 10,.int .i64 64] w fun e w'=>∃ N,e = .returned (.tuple #[.int .i64 (0),.iface 469 (.pointer (some ⟨N,0,none⟩))])∧w.heap.size≤N∧w'.heap[N]? = some (.cells #[.string ⟨#[80,97,114,115,101,73,110,116]⟩,.string s,ev] 475 (0,0))∧Below w.heap.size w w':=Any.strconv_ParseInt_10_at64_syntax Tryz.laysC174 s hlim h ev w hv hev
open Go.RowKit in
theorem Tryz.strconv_ParseInt_10_at64_range (s:ByteArray) (hlim:s.size≤281474976710656) (h:Lib.parseIntB 64 s.data.toList = .range) (ev:Value) (w:World) (hv:w.cell? ⟨4,0,none⟩=some ev) (hev:ev = .nilIface∨∃ te pe,ev = .iface te pe) :
  Calls Tryz.prog 275 #[.string s,.int .i64 10,.int .i64 64] w fun e w'=>∃ N,e = .returned (.tuple #[.int .i64 (Lib.intSat 64 s.data.toList),.iface 469 (.pointer (some ⟨N,0,none⟩))])∧w.heap.size≤N∧w'.heap[N]? = some (.cells #[.string ⟨#[80,97,114,115,101,73,110,116]⟩,.string s,ev] 475 (0,0))∧Below w.heap.size w w':=Any.strconv_ParseInt_10_at64_range Tryz.laysC174 s hlim h ev w hv hev
def Tryz.lays219_ren:Go.Shelf.Ren:=⟨fun | 219=>277 | 217=>262 | 225=>282 | 224=>283 | 267=>284 | 266=>272 | 314=>291 | n=>n,fun | 9=>9 | 3=>3 | 4=>4 | 5=>5 | 46=>332 | 146=>472 | 51=>218 | n=>n,fun | 1=>2 | n=>n⟩
def Tryz.lays145_ren:Go.Shelf.Ren:=⟨fun | 145=>261 | 220=>271 | 219=>277 | 217=>262 | 225=>282 | 224=>283 | 267=>284 | 266=>272 | 314=>291 | n=>n,fun | 9=>9 | 4=>4 | 59=>454 | 3=>3 | 5=>5 | 46=>332 | 146=>472 | 51=>218 | n=>n,fun | 1=>2 | n=>n⟩
theorem Tryz.lays145:Go.Proofs.Lays.n145 Tryz.prog Tryz.lays145_ren:=by repeat' first | kernel_rfl | decide | intro _ | constructor
open Go.RowKit Go.Lib in
theorem Tryz.strings_Cut (s sep:ByteArray) (m:Int) (w:World) (hs:s.size < 4294967281) (hm:w.cell? ⟨2,0,none⟩=some (.int .i64 m)) :
  Calls Tryz.prog 261 #[.string s,.string sep] w fun e w'=>e = .returned (.tuple #[.string ⟨(Lib.cut s.data.toList sep.data.toList).1.toArray⟩,.string ⟨(Lib.cut s.data.toList sep.data.toList).2.1.toArray⟩,.bool (Lib.cut s.data.toList sep.data.toList).2.2])∧∃ n,w'=w.drewN n:=Any.strings_Cut Tryz.lays145 s sep m w hs hm
def Tryz.lays101_ren:Go.Shelf.Ren:=⟨fun | 101=>274 | 208=>280 | 206=>276 | n=>n,fun | 9=>9 | 4=>4 | 3=>3 | n=>n,fun | n=>n⟩
theorem Tryz.lays101:Go.Proofs.Lays.n101 Tryz.prog Tryz.lays101_ren:=by repeat' first | kernel_rfl | decide | intro _ | constructor
open Go.RowKit Go.Lib in
theorem Tryz.strings_TrimPrefix (s p:ByteArray) (w:World) :
  Calls Tryz.prog 274 #[.string s,.string p] w fun e w'=>e = .returned (.string ⟨(Lib.trimPrefix s.data.toList p.data.toList).toArray⟩)∧w'=w:=Any.strings_TrimPrefix Tryz.lays101 s p w
end Go.Proofs
namespace Go.Proofs.YtjdhaegijjednaaGreatDoor
open Go.RowKit Go.MapKept Go.Proofs.Tryz
section
def af(p:Prop):Prop:=p
theorem af.i{p:Prop}(h:af p):p:=h
section
variable {a:Prop}
abbrev Y2:=@if_neg
abbrev Y4:=@Nat.le_refl
abbrev Y5:=@List.mem_cons_of_mem
abbrev Y8:=@Or.inl
abbrev Y9:=@if_pos
abbrev Ya:=@Or.inr
abbrev Yb:=@List.mem_cons_self
abbrev Yc:=@List.mem_singleton
abbrev Yd:=@List.getElem?_eq_getElem
abbrev Ye:=@Bool.false_eq_true
abbrev Yf:=@List.mem_append_left
abbrev Yg:=@List.mem_cons
abbrev Yh:=@List.mem_of_getElem?
abbrev Yi:=@beq_eq_false_iff_ne
abbrev Yj:=@Nat.lt_or_ge
abbrev Yk:=@List.drop_eq_getElem_cons
abbrev Ym:=@List.mem_append_right
abbrev Yn:=@List.mem_append
abbrev Yo:=@congrArg
abbrev Yp:=@And.intro
abbrev Yq:=@List.length_append
abbrev Yr:=@Nat.lt_of_lt_of_le
abbrev Ys:=@List.getElem?_append_left
abbrev Yt:=@List.take_succ_eq_append_getElem
abbrev Yu:=@Option.some.injEq
abbrev Yv:=@List.length_eq_zero_iff
abbrev Yw:=@List.getElem?_append_right
abbrev Yy:=@List.getElem_mem
abbrev Yz:=@Nat.le_trans
abbrev YA:=@List.getElem?_eq_none
abbrev YB:=@List.getElem?_eq_some_iff
abbrev YC:=@List.length_cons
abbrev YD:=@List.flatMap_cons
abbrev YE:=@List.mem_map
abbrev YF:=@List.length_set
abbrev YG:=@List.take_length
abbrev YH:=@List.append_nil
abbrev YI:=@List.length_drop
abbrev YJ:=@List.nodup_append
abbrev YK:=@List.flatMap_append
abbrev YM:=@List.length_pos_iff
abbrev YN:=@List.append_assoc
abbrev YO:=@Array.getElem?_eq_none
abbrev YP:=@List.getElem?_set
abbrev YQ:=@Option.some.inj
abbrev YR:=@List.drop_eq_nil_of_le
abbrev YS:=@List.foldl_append
abbrev YT:=@List.nil_append
abbrev YU:=@List.length_map
abbrev YV:=@Nat.zero_le
abbrev YW:=@List.length_take
abbrev YX:=@List.cons_append
abbrev YY:=@List.foldl_cons
abbrev Zb:=List UInt8
abbrev Zw:=World
abbrev Zv:=Value
abbrev Za:=ByteArray
abbrev Zc:=List Zb
abbrev Zo:=List (Nat×Obj)
abbrev Zl:=List Value
abbrev Ja:List UInt8:=[116,121,112,101,100,101,102]
abbrev Jb:List UInt8:=[117,110,115,105,103,110,101,100]
abbrev Jc:List UInt8:=[112,114,111,103,114,97,109]
abbrev Jd:List UInt8:=[32,123,32]
abbrev Je:List UInt8:=[99,111,110,115,116]
abbrev Jf:List UInt8:=[115,116,114,117,99,116]
abbrev Jg:List UInt8:=[99,97,115,101]
abbrev Jh:List UInt8:=[117,110,105,111,110]
abbrev Ji:List UInt8:=[32,115,119,105,116,99,104,32,40]
abbrev Jj:List UInt8:=[112,114,111,103,114,97,109,32]
abbrev Jk:List UInt8:=[105,110,116]
abbrev Jl:List UInt8:=[125]
abbrev Jm:List UInt8:=[101,110,117,109,32]
abbrev Jn:List UInt8:=[115,119,105,116,99,104]
abbrev Jo:List UInt8:=[101,110,117,109]
abbrev Jp:List UInt8:=[115,116,114,117,99,116,32]
abbrev Jq:List UInt8:=[104,121,112,101,114]
abbrev Jr:List UInt8:=[117,110,105,111,110,32]
abbrev Js:List UInt8:=[98,111,111,108]
abbrev Jt:List UInt8:=[118,111,105,100]
abbrev Ju:List UInt8:=[115,116,114,105,110,103]
abbrev Jv:List UInt8:=[123]
abbrev Jw:List UInt8:=[118,101,114,115,105,111,110,32]
abbrev Jx:List UInt8:=[41,32,123,32]
abbrev Jy:List UInt8:=[111,112,97,113,117,101]
abbrev Jz:List UInt8:=[118,101,114,115,105,111,110]
abbrev JA:List UInt8:=[99,97,115,101,32]
abbrev JB:List UInt8:=[125,59,10]
abbrev JC:List UInt8:=[70,65,76,83,69]
abbrev JD:List UInt8:=[32,61,32]
abbrev JL:List UInt8:=[100,101,102,97,117,108,116]
abbrev JF:List UInt8:=[84,82,85,69]
abbrev JG:List UInt8:=[117,110,115,105,103,110,101,100,32,104,121,112,101,114]
abbrev JH:List UInt8:=[41,32,61,32]
abbrev JI:List UInt8:=[100,101,102,97,117,108,116,58,32]
abbrev Y(a:Int):Value:=.int .i64 a
abbrev Zp(a:Nat):Value:=.pointer (some ⟨a,0,none⟩)
abbrev Zs(a:List UInt8):Value:=.string ⟨a.toArray⟩
abbrev Zh(a:World):Nat:=a.heap.size
abbrev Zd(a b:Nat):Addr:=⟨a,b,none⟩
def Zk(b:a:=by kernel_rfl):a:=b
def Zm(b:a:=by omega):a:=b
def Zq(b:a:=by simp):a:=b
def Zr(b:a:=by rfl):a:=b
def Zg(b:a:=by grind):a:=b
def Zu(b:a:=by simp_all):a:=b
def Zt(b:a:=by assumption):a:=b
def Ze(b:a:=by decide):a:=b
def Zx(b:a:=by simp;omega):a:=b
def Zn(b:a:=by unfold maxLen;omega):a:=b
def Zy(b:a:=by simp[Value.oneCell']):a:=b
def Zf(b:a:=by simp[RowKit.intOf]):a:=b
def Zz(b:a:=by simp[RowKit.intOf];omega):a:=b
def Zj(b:a:=by go_num):a:=b
end
end
def jT:∀(b:Fn) (first a:Array Value) (c:World),(Instr.makeFunc b first a).run Tryz.prog c=.ok (.func b first a) c:=λ_ _ _ _=>rfl
def nN:∀(b:TypeId) (a:World),(Instr.makeMap b none).run Tryz.prog a=.ok (.map (some a.heap.size)) (a.alloc (.map #[] 0)):=λ_ _=>rfl
def taN(b c:TypeId)(d:∀a,(Instr.typeAssert .nilIface b c true).run Tryz.prog a=.ok (.tuple #[.pointer none,.bool false]) a:=by intro a;kernel_rfl):∀a,(Instr.typeAssert .nilIface b c true).run Tryz.prog a=.ok (.tuple #[.pointer none,.bool false]) a:=d
def taF(d:TypeId)(b:Nat)(c e:TypeId)(f:∀a,(Instr.typeAssert (.iface d (.pointer (some ⟨b,0,none⟩))) c e true).run Tryz.prog a=.ok (.tuple #[.pointer none,.bool false]) a:=by intro a;kernel_rfl):∀a,(Instr.typeAssert (.iface d (.pointer (some ⟨b,0,none⟩))) c e true).run Tryz.prog a=.ok (.tuple #[.pointer none,.bool false]) a:=f
def taY(d:TypeId)(b:Nat)(c e:TypeId)(f:∀a,(Instr.typeAssert (.iface d (.pointer (some ⟨b,0,none⟩))) c e true).run Tryz.prog a=.ok (.tuple #[.pointer (some ⟨b,0,none⟩),.bool true]) a:=by intro a;kernel_rfl):∀a,(Instr.typeAssert (.iface d (.pointer (some ⟨b,0,none⟩))) c e true).run Tryz.prog a=.ok (.tuple #[.pointer (some ⟨b,0,none⟩),.bool true]) a:=f
def taG(e:Value)(c d:TypeId)(f:Value)(b:Bool)(g:∀a,(Instr.typeAssert e c d true).run Tryz.prog a=.ok (.tuple #[f,.bool b]) a:=by intro a;kernel_rfl):∀a,(Instr.typeAssert e c d true).run Tryz.prog a=.ok (.tuple #[f,.bool b]) a:=g
def Bu(d:TypeId)(e:∀(b c:Value) (a:World),(Instr.field d (.agg #[b,c]) 0).run Tryz.prog a=.ok b a:=by intro b c a;kernel_rfl):∀(b c:Value) (a:World),(Instr.field d (.agg #[b,c]) 0).run Tryz.prog a=.ok b a:=e
namespace Mar
def eF(a:UInt8):Bool:=(decide (97<=a.toNat)&&decide (a.toNat<=122))||(decide (65<=a.toNat)&&decide (a.toNat<=90))
def d0(a:UInt8):Bool:=decide (48<=a.toNat)&&decide (a.toNat<=57)
def c3(a:UInt8):Bool:=eF a||d0 a||a.toNat==95
def a9:Zb->Zb
 |[]=>[]
 |c::a=>c::a.takeWhile c3
def hC:Zc:=
 [Je,Ja,Jo,Jf,Jh,
  Jn,Jg,JL,Jt,Jk,
  Jb,Jq,Js,Jy,Ju,
  Jc,Jz,JF,JC]
def ee(a:Zb):Bool:=hC.contains a
def ev(a:Zb):Nat:=
 if Lib.hasPrefix a [47,42]then (if 0<=Lib.index (a.drop 2) [42,47]then (Lib.index (a.drop 2) [42,47]).toNat+4 else 0)else 0
def e9(a:UInt8):Bool:=a==32||a==9||a==10
def d7:Zb->Nat
 |[]=>0
 |a::b=>if e9 a then 1 else ev (a::b)
def d9:Nat->Zb->Nat
 |0,_=>0
 |f+1,a=>if d7 a=0 then 0 else d7 a+d9 f (a.drop (d7 a))
def es(a:Zb):Nat:=d9 (a.length+1) a
def kg(a b:Zb)(e:b≠[])(c:0<=Lib.index a b):(Lib.index a b).toNat+b.length<=a.length:=by
 induction a with
 |nil=>
  simp_all[Lib.index]
 |cons d a f=>
  unfold Lib.index at c ⊢;grind
theorem j5(a:Zb):ev a<=a.length:=by
 unfold ev;split
 .rename_i c;have d:=(List.isPrefixOf_iff_prefix.1 c).length_le;simp at d;split
  .rename_i b;have:=kg (a.drop 2) [42,47] Zq b;grind
  omega
 omega
theorem i4(a:Zb):d7 a<=a.length:=by
 cases a<;>grind [d7,j5]
theorem k7(a:Nat)(b:Zb):d9 a b<=b.length:=by
 induction a generalizing b with
 |zero=>simp[d9]
 |succ a c=>
  grind [d9,i4]
structure aU where
 w:Nat
 text:Zb
 n:Int
 y:Nat
structure ac where
 no:Nat
 y:Nat
def ek(a:Zb)(b:Nat):Except ac aU:=
 if 16<a.length then .error ⟨7,b⟩else if ee a then .ok ⟨2,a,0,b⟩else .ok ⟨1,a,0,b⟩
def fl(a:Zb):Bool:=decide (1<a.length)&&a.getD 0 0==48
def e0(a:Zb):Option Int:=
 if fl (Lib.trimPrefix a [45])then none else
 match Lib.parseIntB 64 a with
 |.ok v=>if -2147483648<=v/\v<=4294967295 then some v else none
 |_=>none
def df(a:UInt8):Option Nat:=
 if 48<=a.toNat/\a.toNat<=57 then some (a.toNat-48)
 else if 97<=a.toNat/\a.toNat<=102 then some (a.toNat-87)
 else if 65<=a.toNat/\a.toNat<=70 then some (a.toNat-55)
 else none
def cx:Nat->Zb->Option Nat
 |acc,[]=>some acc
 |acc,a::c=>match df a with
  |some b=>cx (acc*16+b) c
  |none=>none
def f9(a:Zb):Option Int:=
 if 8<a.length then none else if a=[]then none else (cx 0 a).map Int.ofNat
def f1(a:Zb):Option Int:=if Lib.hasPrefix a [48,120]then f9 (a.drop 2)else e0 a
def f5(b:Zb)(a:Nat):Except ac aU:=
 match f1 b with
 |some c=>.ok ⟨3,b,c,a⟩
 |none=>.error ⟨4,a⟩
def fK(a:UInt8):Bool:=[123,125,40,41,91,93,60,62,42,44,59,58,61].contains a
def c9(d:Zb)(b:Nat):Except ac aU:=
 match d with
 |[]=>.ok ⟨0,[],0,b⟩
 |a::c=>
  if eF a then ek (a9 (a::c)) b
  else if d0 a||a==45 then f5 (a9 (a::c)) b
  else if fK a then .ok ⟨4,[a],0,b⟩
  else .error ⟨2,b⟩
def i5{b:UInt8}{a}(c:df b=some a):a<16:=by
 grind [df]
end Mar
namespace Mar
structure lb where
 w:Nat
 text:Zb
 n:Int
theorem k5{b:UInt8}(a:fK b=true):eF b=false/\d0 b=false/\(b==45)=false/\c3 b=false/\e9 b=false/\b≠47:=by
 simp only[fK,List.contains_eq_mem,Yg,List.not_mem_nil,or_false,decide_eq_true_eq]at a;rcases a with a|a|a|a|a|a|a|a|a|a|a|a|a<;>subst a<;>decide
end Mar
def pJ{a b:Bool}(c:a=b):Ending.returned (.bool a)=.returned (.bool b):=by rw[c]
def zP{c}{a b:Int}(d:a=b):Ending.returned (.int c a)=.returned (.int c b):=by rw[d]
def NL{a b:Za}(c:a=b):Ending.returned (.string a)=.returned (.string b):=by rw[c]
def LP(a:UInt8)(b:Zw):Calls prog 237 #[.int .u8 a.toNat] b λc d=>c=.returned (.bool (Mar.eF a))/\d=b:=by
 go_in;go_wp2;all_goals
  go_ret;refine⟨pJ ?_,rfl⟩;unfold Mar.eF;rw[Bool.eq_iff_iff];simp;try omega
def LO(a:UInt8)(b:Zw):Calls prog 240 #[.int .u8 a.toNat] b λc d=>c=.returned (.bool (Mar.d0 a))/\d=b:=by
 go_in;go_wp2;all_goals
  go_ret;refine⟨pJ ?_,rfl⟩;unfold Mar.d0;rw[Bool.eq_iff_iff];simp;try omega
def Xn(a:Za)(b:Zw):Calls prog 263 #[.string a] b λc d=>c=.returned (.bool (Mar.ee a.data.toList))/\d=b:=by
 rw[<-ByteArray.toList_eq];go_in;go_wp2;all_goals
  first
   |(exfalso;simp_all;done)
   |(go_ret;refine⟨pJ ?_, rfl⟩;simp only[Mar.ee, Mar.hC, List.contains_cons, *, Bool.true_or, Bool.false_or, Bool.or_true, List.contains_nil])
section
variable {n : Array Oper} {f : Oper} {e : Act} {Q : Exit -> Act -> Zw -> Prop} {c : Zw} {j k : Operand} {i d o : TypeId} {m v : Zv} {g b h a B H : Nat} {l : Zl}
def ku{rest:List Oper}(w:(prog.info? d).map (λr=>(r.zero,r.size,r.bytes))=some (some m,b,h))(N:prog.underlying i=some (.slice d))(L:c.ownsRow g d b v a l)(p:Zl)(F:c.heap[B]?=some (.cells p.toArray o))(y:∀S∈p,S.oneCell'=true)(J:(a+1)*h<=140737488355328)(O:g<=c.heap.size)(E:c.heap.size=H)
  (x:∀q t s,s.ownsRow g d b (.slice (some ⟨q,0,none⟩) (a+1) t) (a+1) (l++p)->c.grownBy s v.ownBlock->(v.ownBlock=some q\/q=H)->q<s.heap.size->wpList prog n Q rest (e.put f.dst (.slice (some ⟨q,0,none⟩) (a+1) t)) s)
  (G:f.guard=none:=by rfl) (K:f.op=.call { callee:=.builtin .append,args:=#[j,k],argTypes:=#[i,i] }:=by rfl) (M:e.eval j=v:=by rfl) (P:e.eval k=.slice (some ⟨B,0,none⟩) 1 1:=by rfl) (R:m.cells.size=b:=by rfl) (I:p.length=1*b:=by rfl) (u:(0<b/\0<h):=by decide):wpList prog n Q (f::rest) e c:=by
 obtain⟨r,z,A,C,D⟩:=info_parts w;have:=Nat.le_mul_of_pos_right (a+1) u.2;exact wpList_append_lies c G j k i K g d r m b h N z A C D R u.1 v a l M L ⟨B,0,none⟩ 1 1 p P I (World.news_of_block (cs:=p.toArray) F) y (by omega) (by unfold maxLen;omega) J O H E x
def mh{t:Act->Zw->Prop}{x:Prop}(y:(prog.info? d).map (λr=>(r.zero,r.size,r.bytes))=some (some m,b,h))(P:prog.underlying i=some (.slice d))(N:c.ownsRow g d b v a l)(p:Zl)(I:c.heap[B]?=some (.cells p.toArray o))(A:∀a1∈p,a1.oneCell'=true)(L:(a+1)*h<=140737488355328)(R:g<=c.heap.size)(G:c.heap.size=H)
  (z:∀q u s,s.ownsRow g d b (.slice (some ⟨q,0,none⟩) (a+1) u) (a+1) (l++p)->c.grownBy s v.ownBlock->(v.ownBlock=some q\/q=H)->q<s.heap.size->t (e.put f.dst (.slice (some ⟨q,0,none⟩) (a+1) u)) s)
  (J:f.guard=none:=by rfl) (M:f.op=.call { callee:=.builtin .append,args:=#[j,k],argTypes:=#[i,i] }:=by rfl) (O:e.eval j=v:=by rfl) (S:e.eval k=.slice (some ⟨B,0,none⟩) 1 1:=by rfl) (a0:m.cells.size=b:=by rfl) (K:p.length=1*b:=by rfl) (w:(0<b/\0<h):=by decide):if Region.wanted f (yielded n e.tmps)=true then Oper.wp prog f e c t Q else x:=by
 obtain⟨r,C,D,E,F⟩:=info_parts y;have:=Nat.le_mul_of_pos_right (a+1) w.2;exact step_append_lies c J j k i M g d r m b h P C D E F a0 w.1 v a l O N ⟨B,0,none⟩ 1 1 p S K (World.news_of_block (cs:=p.toArray) I) A (by omega) (by unfold maxLen;omega) L R H G z
end
section
variable {a:UInt8}
theorem U{a:Prop}(b:a):af a:=b
def Ax(a:Za)(b:Zw)(e:a.size<=281474976710656):Calls prog 242 #[.string a] b λc d=>c=.returned (.string a)/\Below b.heap.size b d:=by
 go_in;go_wp2_with (go_at_call 266;refine(Tryz.stringslite_Clone _ _ e).mono ?_;rintro c d ⟨rfl,f⟩);go_ret;simp_all
def GT(e:Za)(b:Nat)(p:1<=b)(g:b<=e.size)(h:∀c (j:c<e.size),1<=c->c<b->Mar.c3 e[c]=true)
  (i:∀k:b<e.size,Mar.c3 e[b]=false):Mar.a9 e.data.toList=e.data.toList.take b:=by
 obtain⟨⟨d⟩⟩:=e;replace g:b<=d.length:=g;replace h:∀c (j:c<d.length),1<=c->c<b->Mar.c3 d[c]=true:=h;replace i:∀k:b<d.length,Mar.c3 d[b]=false:=i;show Mar.a9 d=d.take b;cases d with
 |nil=>simp_all
 |cons a f=>
  obtain⟨b,rfl⟩:∃o,b=o+1:=⟨b-1,Zm⟩;simp only[Mar.a9,List.take_succ_cons,List.cons.injEq,true_and];simp only[YC]at g;have m:∀l∈f.take b,Mar.c3 l=true:=by
   intro l n;obtain⟨c,j,rfl⟩:=List.getElem_of_mem n;grind
  conv=>lhs;rw[<-List.take_append_drop b f]
  rw[List.takeWhile_append_of_pos m];have:(f.drop b).takeWhile Mar.c3=[]:=by
   by_cases k:b<f.length
   .grind [List.drop_eq_getElem_cons,List.takeWhile_cons_of_neg]
   simp_all[List.drop_of_length_le]
  simp_all
def WU(b:Mar.eF a=true):Mar.c3 a=true:=by simp[Mar.c3,b]
def WT(b:Mar.d0 a=true):Mar.c3 a=true:=by simp[Mar.c3,b]
def WV(b:((a.toNat:Int)==95)=true):Mar.c3 a=true:=by
 grind [Mar.c3]
def WW(b:¬Mar.eF a=true)(c:¬Mar.d0 a=true)(d:((a.toNat:Int)==95)=false):Mar.c3 a=false:=by
 grind [Mar.c3]
def Bs(b:Za)(a:Nat):b.extract 0 a=⟨(b.data.toList.take a).toArray⟩:=by
 apply ByteArray.ext;simp only[ByteArray.data_extract];grind
def ad7(b:Za)(i:Zw)(v:b.size<=281474976710656)(t:0<b.size):Calls prog 239 #[.string b] i λd j=>d=.returned (.string ⟨(Mar.a9 b.data.toList).toArray⟩)/\Below i.heap.size i j:=by
 go_in;go_wp2;go_loop [3] (λh=>∃c:Nat,1<=c/\c<=b.size/\h=Y c/\∀a (e:a<b.size),1<=a->a<c->Mar.c3 b[a]=true) (λh=>b.size-(intOf h).toNat);case atStart=>grind
 case round=>
  obtain⟨c,k,l,rfl,p⟩:=hrel;have f:af (∀a (e:a<b.size),1<=a->a<c->Mar.c3 b[a]=true):=p;have m:(b.extract 0 c).size<=281474976710656:=Zx;by_cases q:c<b.size
  .have r:Mar.c3 b[c]=true->af (∀a (e:a<b.size),1<=a->a<c+1->Mar.c3 b[a]=true):=by
    intro w a e o u;by_cases d:a=c
    .simp_all
    .exact f.i a e o Zm
   have mI:=U r;go_wp2_with (first
     |(go_at_call 237;refine(LP _ _).mono ?_;rintro d j ⟨rfl,rfl⟩)
     |(go_at_call 240;refine(LO _ _).mono ?_;rintro d j ⟨rfl,rfl⟩)
     |(go_at_call 242;refine(Ax _ _ m).mono ?_;rintro d s ⟨rfl,g⟩))
   .exact⟨⟨c+1,Zm,Zm,Zr,(mI.i (WU ‹_›)).i⟩,Zz⟩
   .exact⟨⟨c+1,Zm,Zm,Zr,(mI.i (WT ‹_›)).i⟩,Zz⟩
   .exact⟨⟨c+1,Zm,Zm,Zr,(mI.i (WV ‹_›)).i⟩,Zz⟩
   .go_ret;refine⟨NL ?_,g⟩;rw[Bs,GT b c k l f.i (λ_=>WW ‹_› ‹_› ‹_›)]
  .go_wp2_with (go_at_call 242;refine(Ax _ _ m).mono ?_;rintro d s ⟨rfl,g⟩);go_ret;refine⟨NL ?_,g⟩;rw[Bs,GT b c k l f.i (λn=>absurd n q)]
end
section
variable {f:Nat}{l:Zb}
def TJ(a:(!Lib.hasPrefix l [47,42])=true):Mar.ev l=0:=by
 grind [Mar.ev]
theorem Pu{a}(b:(!Lib.hasPrefix l a)=false):Lib.trimPrefix l a=l.drop a.length:=by
 grind [Lib.trimPrefix]
theorem TL(a:(!Lib.hasPrefix l [47,42])=false)(b:(!(Lib.cut (Lib.trimPrefix l [47,42]) [42,47]).snd.snd)=true):Mar.ev l=0:=by
 grind [Pu,Lib.cut,Mar.ev]
def TM(a:(!Lib.hasPrefix l [47,42])=false)(b:(!(Lib.cut (Lib.trimPrefix l [47,42]) [42,47]).snd.snd)=false):2+((Lib.cut (Lib.trimPrefix l [47,42]) [42,47]).fst.length:Int)+2=(Mar.ev l:Int):=by
 rw[Pu a]at b ⊢;simp at a;unfold Lib.cut at b ⊢;by_cases c:0<=Lib.index (l.drop 2) [42,47]
 .have:=Mar.kg (l.drop 2) [42,47] Zq c;grind [Mar.ev]
 simp_all
def TW(l a:Zb):(Lib.cut l a).fst.length<=l.length:=by
 grind [Lib.cut]
def HC(l a:Zb):(Lib.trimPrefix l a).length<=l.length:=by
 grind [Lib.trimPrefix]
def TN(a:Za)(f:Int)(d:Zw)(j:a.size<4294967281)(h:d.cell? (Zd 2 0)=some (Y f)):Calls prog 235 #[.string a] d λc e=>c=.returned (Y (Mar.ev a.data.toList))/\∃b,e=d.drewN b:=by
 have k:a.size=a.data.toList.length:=Zq;have g:(⟨(Lib.trimPrefix a.data.toList [47,42]).toArray⟩:Za).size<4294967281:=by
  have:=HC a.data.toList [47,42];show (Lib.trimPrefix a.data.toList [47,42]).toArray.size<_;grind
 have i:((Lib.cut (Lib.trimPrefix a.data.toList [47,42]) [42,47]).fst.length:Int)<=4294967281:=by
  have:=HC a.data.toList [47,42];have:=TW (Lib.trimPrefix a.data.toList [47,42]) [42,47];omega
 go_in;go_wp2_with (first
  |(go_at_call 260;refine(Tryz.strings_CutPrefix _ _ _).mono ?_;rintro c e ⟨rfl,rfl⟩)
  |(go_at_call 261;refine(Tryz.strings_Cut _ _ f _ g h).mono ?_;rintro c e ⟨rfl,b,rfl⟩))
 .go_ret;exact⟨zP (by rw[TJ ‹_›];rfl),0,rfl⟩
 .go_ret;exact⟨zP (by grind [TL]),b,rfl⟩
 .go_ret;exact⟨zP (TM ‹_› ‹_›),b,rfl⟩
def SS(a:UInt8):(0<=Lib.indexByte [32,9,10] ((a.toNat:Int).toNat.toUInt8))↔Mar.e9 a=true:=by
 have:((a.toNat:Int).toNat.toUInt8)=a:=Zq;rw[this];unfold Mar.e9;simp only[Lib.indexByte];grind
theorem Ep(a:UInt8):(0<=Lib.indexByte [32,9,10] a)↔Mar.e9 a=true:=by
 have:=SS a;simp_all
def Fb(a:Za)(b:Nat):(a.extract b a.size).data.toList=a.data.toList.drop b:=by
 have c:a.size=a.data.toList.length:=Zq;simp_all[List.take_of_length_le]
def Fm{a:Nat}(b:a<l.length)(c:Mar.e9 l[a]=true):Mar.d7 (l.drop a)=1:=by
 grind [List.drop_eq_getElem_cons,Mar.d7]
theorem Fp{a:Nat}(b:a<l.length)(c:¬Mar.e9 l[a]=true):Mar.d7 (l.drop a)=Mar.ev (l.drop a):=by
 grind [List.drop_eq_getElem_cons,Mar.d7]
theorem OI{a}(c:(l.drop a).length<f)(b:Mar.d7 (l.drop a)=0):Mar.d9 f (l.drop a)=0:=by
 cases f<;>grind [Mar.d9]
def OH{k a:Nat}(e:(l.drop k).length<f)(c:Mar.d7 (l.drop k)=a)(g:a≠0):∃b,(l.drop (k+a)).length<b/\Mar.d9 f (l.drop k)=a+Mar.d9 b (l.drop (k+a)):=by
 cases f with
 |zero=>omega
 |succ f=>
  have d:=Mar.i4 (l.drop k);rw[c]at d;refine⟨f,?_,?_⟩;all_goals grind [Mar.d9,List.drop_drop]
def ae7(a:Za)(w:Int)(l:Zw)(I:a.size<4294967281)(H:l.cell? (Zd 2 0)=some (Y w)):Calls prog 182 #[.string a] l λp m=>p=.returned (Y (Mar.es a.data.toList))/\∃c,m=l.drewN c:=by
 have y:af (a.size=a.data.toList.length):=Zr;go_in;go_wp2;go_loopw [3] (λs m=>∃b f c:Nat,b<=a.size/\s=Y b/\m=l.drewN c/\(a.data.toList.drop b).length<f/\Mar.es a.data.toList=b+Mar.d9 f (a.data.toList.drop b)) (λs _=>a.size-(intOf s).toNat)
 case atStart=>exact⟨0,a.data.toList.length+1,0,Zm,rfl,rfl,Zq,by simp[Mar.es]⟩
 case round=>
  obtain⟨b,f,c,F,rfl,rfl,A,D⟩:=hrel;have u:af ((a.data.toList.drop b).length<f):=A;have o:af (Mar.es a.data.toList=b+Mar.d9 f (a.data.toList.drop b)):=D;by_cases G:b<a.size
  .have C:b<a.data.toList.length:=Zu;have q:=TN (a.extract b a.size) w (l.drewN c) Zx Zu;rw[Fb]at q;have r:=Mar.j5 (a.data.toList.drop b);simp only[YI]at r;rw[<-y.i]at r;obtain⟨e,v⟩:∃e,af (Mar.ev (a.data.toList.drop b)=e):=⟨_,rfl⟩;rw[v.i]at q r;have x:=U q;have n:=U C;have lC:∀g:Nat,Mar.d7 (a.data.toList.drop b)=g->g≠0->af (∃d,(a.data.toList.drop (b+g)).length<d/\Mar.es a.data.toList=(b+g:Nat)+Mar.d9 d (a.data.toList.drop (b+g))):=by
    intro g B h;obtain⟨d,i,j⟩:=OH u.i B h;exact⟨d,i,by rw[o.i,j];omega⟩
   have Fin:=U lC;have E:a[b]=a.data.toList[b]'(n.i):=Zr;have z:=U E;go_wp2_with (first
    |(go_at_call 235;refine x.i.mono ?_;rintro p m ⟨rfl,t,rfl⟩)
    |(go_at_call 236;refine(Tryz.strings_IndexByte _ _ _).mono ?_;rintro p m ⟨rfl,rfl⟩))
   .obtain⟨d,i,j⟩:=(Fin.i 1 (Fm n.i (by grind [af.i,Ep])) Zm).i;exact⟨⟨b+1,d,c+t,Zm,Zr,rfl,i,j⟩,Zz⟩
   .go_ret;have h:e=0:=Zu;have k:¬Mar.e9 a[b]=true:=λk=>by have:=(Ep _).2 k;omega
    refine⟨zP ?_,c+t,rfl⟩;rw[o.i,OI u.i (by rw[Fp n.i (by rw[<-z.i];omega),v.i,h])];rfl
   .have h:e≠0:=Zu;have k:¬Mar.e9 a[b]=true:=λk=>by have:=(Ep _).2 k;omega
    obtain⟨d,i,j⟩:=(Fin.i e (by grind [Fp,af.i]) h).i;exact⟨⟨b+e,d,c+t,Zm,Zr,rfl,i,j⟩,Zz⟩
  .go_wp2;go_ret;refine⟨zP ?_,c,rfl⟩;have:a.data.toList.drop b=[]:=List.drop_of_length_le Zu;rw[o.i,this];have:∀f,Mar.d9 f []=0:=by intro f;cases f<;>simp[Mar.d9,Mar.d7]
   simp_all
end
end Go.Proofs.YtjdhaegijjednaaGreatDoor
namespace Go.Proofs.YtjdhaegijjednaaGreatDoor
open Go.RowKit
open Go.Lib (occAt)
open Go.Proofs.Tryz
section
variable {b a:Zb}{c:Nat}
def abL(a:c+1<b.length):occAt b [42,47] c=(b[c]==42&&b[c+1]==47):=by
 grind [occAt,List.drop_eq_getElem_cons]
def TI(f:c+1<b.length)(e:∀a,a<c->occAt b [42,47] a=false)(d:occAt b [42,47] c=true):Lib.index b [42,47]=c:=Lib.index_first Zm d e
def TK(i:∀a,a<c->occAt b [42,47] a=false)(h:b.length<=c+1):Lib.index b [42,47] = -1:=by
 refine Lib.index_none (λa g=>?_);rcases Yj a c with d|d
 .simp_all
 .cases f:occAt b [42,47] a with
  |false=>rfl
  |true=>
   rcases Lib.occAt_room f with e|e;all_goals grind
def TH{b:Nat}(c:b+1<a.length)(d:a[b]=47)(e:a[b+1]=42):Mar.ev (a.drop b)=if 0<=Lib.index (a.drop (b+2)) [42,47]then (Lib.index (a.drop (b+2)) [42,47]).toNat+4 else 0:=by
 have f:Lib.hasPrefix (a.drop b) [47,42]=true:=by
  grind [Lib.hasPrefix,List.drop_eq_getElem_cons]
 simp_all[Mar.ev]
def EK{b:Nat}(d:b<a.length)(e:∀(c:b+1<a.length),¬(a[b]=47/\a[b+1]=42)):Mar.ev (a.drop b)=0:=by
 have f:Lib.hasPrefix (a.drop b) [47,42]=false:=by
  unfold Lib.hasPrefix;rw[Yk d];rcases Yj (b+1) a.length with c|c
  .rw[Yk c];grind
  grind
 grind [Mar.ev]
def gE(a:Zb)(b:Nat):Nat:=b+Mar.es (a.drop b)
theorem ae6{b:Zb}:∀{a c:Nat},b.length<a->b.length<c->Mar.d9 a b=Mar.d9 c b:=by
 intro a;induction a generalizing b with
 |zero=>omega
 |succ a f=>
  intro c d e;cases c<;>grind [Mar.d9,Mar.i4]
def Ls{b}(c:Mar.d7 (a.drop b)=0):gE a b=b:=by
 grind [gE,Mar.es,OI]
def Wl{k b:Nat}(c:Mar.d7 (a.drop k)=b)(d:b≠0):gE a k=gE a (k+b):=by
 unfold gE Mar.es;obtain⟨e,g,h⟩:=OH (l:=a) (k:=k) (f:=(a.drop k).length+1) Zm c d;grind [ae6]
def Wj{b:Nat}(c:a.length<=b):gE a b=b:=by
 refine Ls ?_;rw[List.drop_eq_nil_iff.2 c];rfl
end
end Go.Proofs.YtjdhaegijjednaaGreatDoor
namespace Go.Proofs.YtjdhaegijjednaaGreatDoor
open Go.Lib (parseUintM parseUintB parseIntB)
open Go.Proofs.Tryz
def mS:Nat->Zb->Option Nat
 |acc,[]=>some acc
 |acc,a::b=>if Mar.d0 a then mS (acc*10+(a.toNat-48)) b else none
def iu(a:Zb)(c:Bool):Option Int:=
 if 2<a.length/\a.getD 0 0=48/\a.getD 1 0=120 then (if c=true\/10<a.length then none else (Mar.cx 0 (a.drop 2)).map Int.ofNat)
 else if a=[]\/10<a.length\/(1<a.length/\a.getD 0 0=48)then none
 else match mS 0 a with
  |none=>none
  |some b=>if c then (if b<=2147483648 then some (-(b:Int))else none)else (if b<=4294967295 then some (b:Int)else none)
theorem BH(a:UInt8):Mar.d0 a=true↔48<=a.toNat/\a.toNat<=57:=by simp[Mar.d0]
def acl:∀(d:Zb) (a:Nat),a*10 ^ d.length+10 ^ d.length<=10000000000000000000->parseUintM 18446744073709551615 a d=match mS a d with|some u=>.ok u|none=>.syntax:=by
 intro d;induction d with
 |nil=>intro a _;rfl
 |cons c b m=>
  intro a g;have l:1<=10 ^ b.length:=Nat.one_le_pow _ _ Zm;rw[YC,Nat.pow_succ]at g;by_cases e:48<=c.toNat/\c.toNat<=57
  .have k:a*10<=a*(10 ^ b.length*10):=Nat.mul_le_mul_left _ Zm;have i:a<1000000000000000000:=Zm;have j:(a*10+(c.toNat-48))*10 ^ b.length+10 ^ b.length<=10000000000000000000:=by
    have f:(a*10+(c.toNat-48))*10 ^ b.length+10 ^ b.length=(a*10+(c.toNat-48)+1)*10 ^ b.length:=Zg;have h:a*(10 ^ b.length*10)+10 ^ b.length*10=(a*10+10)*10 ^ b.length:=Zg;rw[f];refine Yz (Nat.mul_le_mul_right _ (by omega:a*10+(c.toNat-48)+1<=a*10+10)) ?_;omega
   simp only[parseUintM,mS];rw[Y9 e,Y2 Zm,Y2 Zm,Y9 ((BH c).2 e)];simp_all
  simp_all[parseUintM,mS,Y2,BH]
def ack:∀(c:Zb) (b d:Nat),parseUintM 18446744073709551615 b c=.ok d->b*10 ^ c.length<=d:=by
 intro c;induction c with
 |nil=>intro b d a;cases a;simp
 |cons e g f=>
  intro b d a;simp only[parseUintM]at a;split at a
  .split at a
   .cases a
   .split at a
    .cases a
    grind [Nat.mul_comm,Nat.mul_assoc]
  grind
def Nx{c:Zb}(h:10<c.length)(i:c.getD 0 0≠48){e}(a:parseUintB 64 c=.ok e):10000000000<=e:=by
 cases c with
 |nil=>grind
 |cons b d=>
  have f:b≠48:=Zu;unfold Lib.parseUintB at a;rw[Y2 Zq]at a;have a:parseUintM 18446744073709551615 0 (b::d)=.ok e:=a;simp only[parseUintM]at a;split at a
  .rename_i l;have k:1<=b.toNat-48:=by
    have:b.toNat≠48:=λg=>f (UInt8.toNat_inj.1 Zu);omega
   split at a
   .omega
   .split at a
    .omega
    .have:=ack _ _ _ a;have j:10 ^ 10<=10 ^ d.length:=Nat.pow_le_pow_right Zm Zg;have:1*10 ^ d.length<=(0*10+(b.toNat-48))*10 ^ d.length:=Nat.mul_le_mul_right _ Zm;omega
  simp_all
def PD{a:Zb}(b:a≠[])(c:¬10<a.length):parseUintB 64 a=match mS 0 a with|some u=>.ok u|none=>.syntax:=by
 unfold Lib.parseUintB;rw[Y2 b];refine acl a 0 ?_;have:10 ^ a.length<=10 ^ 10:=Nat.pow_le_pow_right Zm Zm;omega
theorem Cp(a:Zb):Mar.fl a=true↔(1<a.length/\a.getD 0 0=48):=by simp[Mar.fl]
def abI{a:UInt8}{b:Zb}(l:Mar.d0 a=true):Mar.f1 (a::b)=iu (a::b) false:=by
 have u:=(BH a).1 l;have h:¬(a.toNat=43\/a.toNat=45):=Zm;have t:a≠45:=λc=>by simp_all
 by_cases d:Lib.hasPrefix (a::b) [48,120]=true
 .obtain⟨q,v⟩:=List.isPrefixOf_iff_prefix.1 d;have c:a::b=48::120::q:=Zu;rw[c];unfold Mar.f1 iu;rw[c]at d;rw[Y9 d];unfold Mar.f9;simp only[List.drop_succ_cons,List.drop_zero,YC];grind
 .have w:Lib.hasPrefix (a::b) [48,120]=false:=Zu;have n:¬(2<(a::b).length/\(a::b).getD 0 0=48/\(a::b).getD 1 0=120):=by
   rintro⟨s,f,g⟩;cases b with
   |nil=>grind
   |cons r b=>
    simp at f g;subst f g;exact d rfl
  have o:Lib.trimPrefix (a::b) [45]=a::b:=by
   unfold Lib.trimPrefix Lib.hasPrefix;grind
  unfold Mar.f1 iu Mar.e0;rw[Y2 Zm,Y2 n,o];by_cases i:Mar.fl (a::b)=true
  .simp_all[Cp]
  .rw[Y2 i];have m:¬(1<(a::b).length/\(a::b).getD 0 0=48):=λj=>i ((Cp _).2 j);by_cases e:10<(a::b).length
   .rw[Y9 (Ya (Y8 e))];have k:(a::b).getD 0 0≠48:=λc=>m ⟨Zm,c⟩;unfold Lib.parseIntB;simp only[Y2 h];cases p:parseUintB 64 (a::b)with
    |«syntax»=>rfl
    |range=>rfl
    |ok x=>
     have:=Nx e k p;grind
   .rw[Y2 Zu];unfold Lib.parseIntB;simp only[Y2 h];rw[PD Zq e];grind
def abG(a:Zb):Mar.f1 (45::a)=iu a true:=by
 have m:Lib.hasPrefix (45::a) [48,120]=false:=Zr;have k:Lib.trimPrefix (45::a) [45]=a:=Zr;unfold Mar.f1 Mar.e0;rw[Y2 Zu,k];by_cases d:Mar.fl a=true
 .simp_all[Cp,iu]
 .rw[Y2 d];have e:¬(1<a.length/\a.getD 0 0=48):=λb=>d ((Cp _).2 b);have j:¬(2<a.length/\a.getD 0 0=48/\a.getD 1 0=120):=λb=>e ⟨Zm,b.2.1⟩;unfold iu;rw[Y2 j];unfold Lib.parseIntB;have i:(45:UInt8).toNat=45:=rfl;simp only[i,or_true,if_true]
  by_cases f:a=[]
  .subst f;rfl
  .by_cases c:10<a.length
   .rw[Y9 (Ya (Y8 c))];have h:a.getD 0 0≠48:=λg=>e ⟨Zm,g⟩;cases l:parseUintB 64 a with
    |«syntax»=>rfl
    |range=>rfl
    |ok n=>
     have:=Nx c h l;grind
   .rw[Y2 Zu,PD f c];grind
end Go.Proofs.YtjdhaegijjednaaGreatDoor
namespace Go.Proofs.YtjdhaegijjednaaGreatDoor
open Go.RowKit Go.MapKept Go.Proofs.Tryz
def Md(a:UInt8)(b:Zw):Calls prog 137 #[.int .u8 a.toNat] b λc d=>c=.returned (.bool (Mar.eF a))/\d=b:=by
 go_in;go_wp2;all_goals
  go_ret;refine⟨pJ ?_,rfl⟩;unfold Mar.eF;rw[Bool.eq_iff_iff];simp;try omega
def EW(a:UInt8)(b:Zw):Calls prog 138 #[.int .u8 a.toNat] b λc d=>c=.returned (.bool (Mar.d0 a))/\d=b:=by
 go_in;go_wp2;all_goals
  go_ret;refine⟨pJ ?_,rfl⟩;unfold Mar.d0;rw[Bool.eq_iff_iff];simp;try omega
def Xt(a:Za)(b:Zw):Calls prog 139 #[.string a] b λc d=>c=.returned (.bool (Mar.ee a.data.toList))/\d=b:=by
 rw[<-ByteArray.toList_eq];go_in;go_wp2;all_goals
  first
   |(exfalso;simp_all;done)
   |(go_ret;refine⟨pJ ?_, rfl⟩;simp only[Mar.ee, Mar.hC, List.contains_cons, *, Bool.true_or, Bool.false_or, Bool.or_true, List.contains_nil])
def od(b:UInt8)(a:Nat)(d:a<256):((b.toNat:Int)==(a:Int))=(b==UInt8.ofNat a):=by
 rw[Bool.eq_iff_iff];simp only[beq_iff_eq];constructor
 .intro c;apply UInt8.toNat_inj.1;simp;omega
 .intro c;subst c;simp;omega
def Wm(a:Zb)(j:Nat)(a0:j<=a.length)(c0:a.length<=1000000)(x:Zw):Calls prog 136 #[Zs a,Y j] x λk a3=>k=.returned (Y (gE a j))/\a3=x:=by
 go_in;go_wp21;go_loopw [1] (λe w=>∃b:Nat,e=Y b/\b<=a.length/\af (gE a j=gE a b)/\w=x) (λe _=>a.length-(intOf e).toNat)
 case atStart=>exact⟨j,rfl,a0,rfl,rfl⟩
 case round=>
  obtain⟨b,rfl,b7,q,rfl⟩:=hrel;rcases Yj b a.length with i|O
  .have b1:(0:Int)<=(b:Int):=Zm;have b2:(b:Int)<(a.length:Int):=Zm;have a7:(⟨a.toArray⟩:Za)[b]'(by grind [ByteArray.size])=a[b]:=rfl;have p:Mar.d7 (a.drop b)≠0->af (gE a j=gE a (b+Mar.d7 (a.drop b))):=λd=>q.i.trans (Wl rfl d);have m:Mar.d7 (a.drop b)=0->af (gE a j=b):=λd=>q.i.trans (Ls d);by_cases f:Mar.e9 a[b]=true
   .have o:=p (by rw[Fm i f];omega);rw[Fm i f]at o;have M:a[b].toNat=32\/a[b].toNat=9\/a[b].toNat=10:=by
     simp only[Mar.e9,Bool.or_eq_true,beq_iff_eq]at f;rcases f with(d|d)|d<;>(rw[d];simp)
    rcases M with d|d|d
    .have n:(a[b].toNat:Int)=32:=Zm;go_wp2;exact⟨⟨b+1,Zr,i,o,trivial⟩,Zz⟩
    .have n:(a[b].toNat:Int)=9:=Zm;go_wp2;exact⟨⟨b+1,Zr,i,o,trivial⟩,Zz⟩
    .have n:(a[b].toNat:Int)=10:=Zm;go_wp2;exact⟨⟨b+1,Zr,i,o,trivial⟩,Zz⟩
   .have P:=Fp i f;rw[P]at p m;have c3:((a[b].toNat:Int)==32)=false:=by
     simp only[Mar.e9,Bool.or_eq_true,beq_iff_eq,not_or]at f;have:a[b].toNat≠32:=λk=>f.1.1 (UInt8.toNat_inj.1 Zu);grind
    have c4:((a[b].toNat:Int)==9)=false:=by
     simp only[Mar.e9,Bool.or_eq_true,beq_iff_eq,not_or]at f;have:a[b].toNat≠9:=λk=>f.1.2 (UInt8.toNat_inj.1 Zu);grind
    have c2:((a[b].toNat:Int)==10)=false:=by
     simp only[Mar.e9,Bool.or_eq_true,beq_iff_eq,not_or]at f;have:a[b].toNat≠10:=λk=>f.2 (UInt8.toNat_inj.1 Zu);grind
    by_cases v:a[b]=47
    .have G:((a[b].toNat:Int) != 47)=false:=Zu;rcases Yj (b+1) a.length with n|n
     .have b8:(0:Int)<=(b:Int)+1:=Zm;have b9:(b:Int)+1<(a.length:Int):=Zm;have a1:¬((a.length:Int)<=(b:Int)+1):=Zm;have a8:(⟨a.toArray⟩:Za)[b+1]'(by grind [ByteArray.size])=a[b+1]:=rfl;by_cases u:a[b+1]=42
      .have F:((a[b+1].toNat:Int) != 42)=false:=Zu;have N:=TH n v u;rw[N]at p m;have E:=U p;have D:=U m;have mU:(a.drop (b+2)).length=a.length-(b+2):=YI;go_wp21;go_loopw [6] (λt w=>∃e c:Nat,af (c=b+2+e)/\t=Y (c:Int)/\c<=a.length/\af (∀g,g<e->Lib.occAt (a.drop (b+2)) [42,47] g=false)/\w=wr) (λt _=>a.length-(intOf t).toNat)
       case atStart=>exact⟨0,b+2,rfl,rfl,Zm,(λg d=>by omega),rfl⟩
       case round=>
        obtain⟨e,c,l,rfl,b0,r,rfl⟩:=hrel;rcases Yj (c+1) a.length with L|L
        .have b4:(0:Int)<=(c:Int):=Zm;have b5:(c:Int)<(a.length:Int):=Zm;have b6:(0:Int)<=(c:Int)+1:=Zm;have R:(c:Int)+1<(a.length:Int):=Zm;have S:¬((a.length:Int)<=(c:Int)+1):=Zm;have a5:(⟨a.toArray⟩:Za)[c]'(by simp[ByteArray.size];omega)=a[c]:=rfl;have a6:(⟨a.toArray⟩:Za)[c+1]'(by simp[ByteArray.size];omega)=a[c+1]:=rfl;have c1:Lib.occAt (a.drop (b+2)) [42,47] e=(a[c]==42&&a[c+1]==47):=by
          have a2:=l.i;subst a2;rw[abL Zm];simp only[List.getElem_drop];rfl
         have y:Lib.occAt (a.drop (b+2)) [42,47] e=false->af (∀g,g<e+1->Lib.occAt (a.drop (b+2)) [42,47] g=false):=by
          intro d g b3;rcases Yj g e with z|z
          .exact r.i g z
          .have:g=e:=Zm;simp_all
         by_cases J:a[c]=42
         .have H:((a[c].toNat:Int) != 42)=false:=Zu;by_cases K:a[c+1]=47
          .have I:((a[c+1].toNat:Int) != 47)=false:=Zu;have A:Lib.index (a.drop (b+2)) [42,47]=e:=TI (by have:=l.i;omega) r.i Zu;have B:=E.i Zu;rw[A,Y9 Zm]at B;have C:af (gE a j=gE a (c+2)):=by
            show _=_;rw[B.i];have:=l.i;congr 1;omega
           go_wp2;refine⟨⟨c+2,Zr,Zm,C,trivial⟩,by have:=l.i;simp[intOf];omega⟩
          .have I:((a[c+1].toNat:Int) != 47)=true:=by
            have:a[c+1].toNat≠47:=λk=>K (UInt8.toNat_inj.1 Zu);simp;omega
           have s:=y Zu;go_wp2;exact⟨⟨e+1,c+1,(by have:=l.i;show _=_;omega),Zr,Zm,s,trivial⟩,Zz⟩
         .have H:((a[c].toNat:Int) != 42)=true:=by
           have:a[c].toNat≠42:=λk=>J (UInt8.toNat_inj.1 Zu);simp;omega
          have s:=y Zu;go_wp2;exact⟨⟨e+1,c+1,(by have:=l.i;show _=_;omega),Zr,Zm,s,trivial⟩,Zz⟩
        .have R:¬((c:Int)+1<(a.length:Int)):=Zm;have S:(a.length:Int)<=(c:Int)+1:=Zm;have A:Lib.index (a.drop (b+2)) [42,47] = -1:=TK r.i (by have:=l.i;omega);have h:=D.i Zu;go_wp2;go_ret;exact⟨by rw[h.i];rfl,rfl⟩
      .have F:((a[b+1].toNat:Int) != 42)=true:=by
        have:a[b+1].toNat≠42:=λk=>u (UInt8.toNat_inj.1 Zu);grind
       have h:=m (EK i (λ_ d=>u d.2));go_wp2;go_ret;exact⟨by rw[h.i];rfl,rfl⟩
     .have a1:(a.length:Int)<=(b:Int)+1:=Zm;have h:=m (EK i (λa4=>by omega));go_wp2;go_ret;exact⟨by rw[h.i];rfl,rfl⟩
    .have G:((a[b].toNat:Int) != 47)=true:=by
      have:a[b].toNat≠47:=λk=>v (UInt8.toNat_inj.1 Zu);grind
     have h:=m (EK i (λ_ d=>v d.1));go_wp2;go_ret;exact⟨by rw[h.i];rfl,rfl⟩
  .have h:af (gE a j=b):=q.i.trans (Wj O);have a9:¬((b:Int)<(a.length:Int)):=Zm;go_wp2;go_ret;exact⟨by rw[h.i];rfl,rfl⟩
def vS(b:Option Nat):Int:=match b with
 |some a=>(a:Int)
 |none=>-1
def WO(a:UInt8)(i:Zw):Calls prog 213 #[.int .u8 a.toNat] i λj k=>j=.returned (Y (vS (Mar.df a)))/\k=i:=by
 have l:=a.toNat_lt;go_in;by_cases c:48<=a.toNat/\a.toNat<=57
 .have b:af (vS (Mar.df a)=(a.toNat:Int)-48):=by
   show _=_;unfold Mar.df;rw[Y9 c];show ((a.toNat-48:Nat):Int)=_;omega
  have e:(48:Int)<=a.toNat:=Zm;have f:(a.toNat:Int)<=57:=Zm;have g:IntKind.u8.wrap ((a.toNat:Int)-48)=(a.toNat:Int)-48:=by rw[IntKind.wrap_u8];omega
  go_wp2;go_ret;exact⟨by rw[b.i];rfl,rfl⟩
 .by_cases d:97<=a.toNat/\a.toNat<=102
  .have b:af (vS (Mar.df a)=(a.toNat:Int)-97+10):=by
    show _=_;unfold Mar.df;rw[Y2 c,Y9 d];show ((a.toNat-87:Nat):Int)=_;omega
   have e:(97:Int)<=a.toNat:=Zm;have f:(a.toNat:Int)<=102:=Zm;have g:IntKind.u8.wrap ((a.toNat:Int)-97)=(a.toNat:Int)-97:=by rw[IntKind.wrap_u8];omega
   go_wp2;all_goals (first|(exfalso;omega)|(go_ret;exact⟨by rw[b.i];rfl,rfl⟩))
  .by_cases h:65<=a.toNat/\a.toNat<=70
   .have b:af (vS (Mar.df a)=(a.toNat:Int)-65+10):=by
     show _=_;unfold Mar.df;rw[Y2 c,Y2 d,Y9 h];show ((a.toNat-55:Nat):Int)=_;omega
    have e:(65:Int)<=a.toNat:=Zm;have f:(a.toNat:Int)<=70:=Zm;have g:IntKind.u8.wrap ((a.toNat:Int)-65)=(a.toNat:Int)-65:=by rw[IntKind.wrap_u8];omega
    go_wp2;all_goals (first|(exfalso;omega)|(go_ret;exact⟨by rw[b.i];rfl,rfl⟩))
   .have b:af (vS (Mar.df a) = -1):=by
     show _=_;unfold Mar.df;rw[Y2 c,Y2 d,Y2 h];rfl
    go_wp2;all_goals (first|(exfalso;omega)|(go_ret;exact⟨by rw[b.i];rfl,rfl⟩))
def Rj(d:Zw)(b:Option Int)(c:Ending)(e:Zw):Prop:=e=d/\∃a,c=.returned (.tuple #[Y a,.bool b.isSome])/\∀v,b=some v->a=v
def WK{b:Zb}{a acc:Nat}(c:a<b.length):Mar.cx acc (b.drop a)=match Mar.df b[a]with|some d=>Mar.cx (acc*16+d) (b.drop (a+1))|none=>none:=by
 rw[Yk c];rfl
def Uk{b:Zb}{a acc:Nat}(c:a<b.length):mS acc (b.drop a)=if Mar.d0 b[a]then mS (acc*10+(b[a].toNat-48)) (b.drop (a+1))else none:=by
 rw[Yk c];rfl
def PC(b:UInt8)(a:Nat)(c:a<256):((b.toNat:Int)==(a:Int))=decide (b=UInt8.ofNat a):=by
 rw[Bool.eq_iff_iff,beq_iff_eq,decide_eq_true_iff,<-UInt8.toNat_inj,UInt8.toNat_ofNat',Nat.mod_eq_of_lt c];omega
def abJ(a:Zb)(g:Bool)(c5:a.length<=2000)(r:Zw):Calls prog 140 #[Zs a,.bool g] r (Rj r (iu a g)):=by
 have H:∀f (d:f<a.length),a.getD f 0=a[f]:=λf d=>by simp[d]
 have A:=λB=>PC B 48 Ze;have O:=λB=>PC B 120 Ze;simp only[Int.cast_ofNat_Int]at A O;go_in;go_upto_region 2 with fail;go_cut [23] (λz wc=>z=.bool (decide (2<a.length/\a.getD 0 0=48/\a.getD 1 0=120))/\r=wc);case first=>
  by_cases E:2<a.length
  .have b5:(2:Int)<(a.length:Int):=Zm;have a0:(0:Int)<(a.length:Int):=Zm;have a1:(1:Int)<(a.length:Int):=Zm;have a8:(⟨a.toArray⟩:Za)[0]'(by simp[ByteArray.size];omega)=a[0]:=rfl;have c1:(⟨a.toArray⟩:Za)[1]'(by simp[ByteArray.size];omega)=a[1]:=rfl;have C:=A a[0];have a6:=O a[1];generalize s:decide (a[0]=48)=w at C;generalize R:decide (a[1]=120)=a2 at a6;cases w<;>cases a2<;>(go_wp2;go_meet;case rel=>exact⟨by rw[H 0 Zm,H 1 Zm];simp at s R;simp[E,s,R],rfl⟩)
  .have b5:¬((2:Int)<(a.length:Int)):=Zm;go_wp2;go_meet;case rel=>exact⟨by simp[E],rfl⟩
 case rest=>
 obtain⟨rfl,rfl⟩:=hcut;by_cases q:2<a.length/\a.getD 0 0=48/\a.getD 1 0=120
 .rw[decide_eq_true q];have E:=q.1;have x:af (iu a g=if g=true\/10<a.length then none else (Mar.cx 0 (a.drop 2)).map Int.ofNat):=by show _=_;unfold iu;rw[Y9 q]
  cases g with
  |true=>
   have e:af (iu a true=none):=by show _=_;rw[x.i,Y9 (Y8 rfl)]
   go_wp2;go_ret2;exact⟨rfl,0,by rw[e.i];rfl,λv d=>by rw[e.i]at d;cases d⟩
  |false=>
   by_cases p:10<a.length
   .have e:af (iu a false=none):=by show _=_;rw[x.i,Y9 (Ya p)]
    have J:(10:Int)<(a.length:Int):=Zm;go_wp2;go_ret2;exact⟨rfl,0,by rw[e.i];rfl,λv d=>by rw[e.i]at d;cases d⟩
   .have M:af (iu a false=(Mar.cx 0 (a.drop 2)).map Int.ofNat):=by show _=_;rw[x.i,Y2 (by rintro(d|d);cases d;exact p d)]
    have J:¬((10:Int)<(a.length:Int)):=Zm;go_wp21;go_loopw [6,7] (λb8 f K=>∃b c:Nat,f=Y b/\b8=Y c/\2<=b/\b<=a.length/\c<16 ^ (b-2)/\af (Mar.cx 0 (a.drop 2)=Mar.cx c (a.drop b))/\K=r) (λ_ f _=>a.length-(intOf f).toNat)
    case atStart=>exact⟨2,0,rfl,rfl,Zm,Zm,Zq,rfl,rfl⟩
    case round=>
     obtain⟨b,c,rfl,rfl,c4,b1,a7,l,rfl⟩:=hrel;have b2:16 ^ (b-2)<=16 ^ 8:=Nat.pow_le_pow_right Zm Zm;rcases Yj b a.length with o|b0
     .have c7:(0:Int)<=(b:Int):=Zm;have b7:(b:Int)<(a.length:Int):=Zm;have a9:(⟨a.toArray⟩:Za)[b]'(by simp[ByteArray.size];exact o)=a[b]:=rfl;have h:=U (WO a[b]);have j:=WK (acc:=c) o;cases n:Mar.df a[b]with
      |none=>
       rw[n]at j h;have e:af (iu a false=none):=by show _=_;rw[M.i,l.i,j];rfl
       go_wp21;refine(h.i _).mono ?_;rintro m L ⟨rfl,rfl⟩;have b3:vS none = -1:=rfl;go_wp2;go_ret2;exact⟨rfl,0,by rw[e.i];rfl,λv d=>by rw[e.i]at d;cases d⟩
      |some k=>
       rw[n]at j h;have c2:=Mar.i5 n;have y:af (Mar.cx 0 (a.drop 2)=Mar.cx (c*16+k) (a.drop (b+1))):=by show _=_;rw[l.i,j]
       have a4:IntKind.i64.wrap (16*(c:Int))=16*(c:Int):=by rw[IntKind.wrap_i64];omega
       have a5:IntKind.i64.wrap (16*(c:Int)+(k:Int))=((c*16+k:Nat):Int):=by rw[IntKind.wrap_i64];omega
       have F:c*16+k<16 ^ (b+1-2):=by
        have m:b+1-2=(b-2)+1:=Zm;rw[m,Nat.pow_succ];omega
       have c0:¬((k:Int)<0):=Zm;go_wp21;refine(h.i _).mono ?_;rintro m L ⟨rfl,rfl⟩;have b3:vS (some k)=(k:Int):=rfl;go_wp2;exact⟨⟨b+1,c*16+k,Zj,by congr 1<;>omega,Zm,o,F,y,trivial⟩,Zz⟩
     .have I:b=a.length:=Zm;subst I;have e:af (iu a false=some (c:Int)):=by show _=_;rw[M.i,l.i,List.drop_length];rfl
      have b7:¬((a.length:Int)<(a.length:Int)):=Zm;go_wp2;go_ret2;exact⟨rfl,(c:Int),by rw[e.i];rfl,λv d=>by rw[e.i]at d;injection d⟩
 rw[decide_eq_false q];go_upto_region 13 with fail;go_cut [64] (λz wc=>z=.bool (decide (a=[]\/10<a.length\/(1<a.length/\a.getD 0 0=48)))/\r=wc);case first=>
  by_cases D:a.length=0
  .have b6:((a.length:Int)==0)=true:=by rw[D];rfl
   go_wp2;go_meet;case rel=>exact⟨by simp[Yv.1 D],rfl⟩
  have b6:((a.length:Int)==0)=false:=by rw[Yi];omega
  have S:a≠[]:=λm=>D (by rw[m];rfl);have a8:(⟨a.toArray⟩:Za)[0]'(by simp[ByteArray.size];omega)=a[0]:=rfl;have a0:(0:Int)<(a.length:Int):=Zm;have C:=A a[0];generalize s:decide (a[0]=48)=w at C;by_cases p:10<a.length
  .have J:(10:Int)<(a.length:Int):=Zm;go_wp2;go_meet;case rel=>exact⟨by simp[p],rfl⟩
  have J:¬((10:Int)<(a.length:Int)):=Zm;by_cases P:1<a.length
  .have b4:(1:Int)<(a.length:Int):=Zm;cases w<;>(go_wp2;go_meet;case rel=>exact⟨by rw[H 0 Zm];simp at s;simp[S,p,P,s],rfl⟩)
  .have b4:¬((1:Int)<(a.length:Int)):=Zm;go_wp2;go_meet;case rel=>exact⟨by simp[S,p,P],rfl⟩
 case rest=>
 obtain⟨rfl,rfl⟩:=hcut;by_cases t:a=[]\/10<a.length\/(1<a.length/\a.getD 0 0=48)
 .rw[decide_eq_true t];have e:af (iu a g=none):=by show _=_;unfold iu;rw[Y2 q,Y9 t]
  go_wp2;go_ret2;exact⟨rfl,0,by rw[e.i];rfl,λv d=>by rw[e.i]at d;cases d⟩
 rw[decide_eq_false t];have G:af (iu a g=match mS 0 a with|none=>none|some u=>if g then (if u<=2147483648 then some (-(u:Int))else none)else (if u<=4294967295 then some (u:Int)else none)):=by
  show _=_;unfold iu;rw[Y2 q,Y2 t];all_goals (cases mS 0 a<;>rfl)
 have c6:a.length<=10:=Zm;go_wp21;go_loopw [6,9] (λa3 f K=>∃b c:Nat,f=Y b/\a3=Y c/\b<=a.length/\c<10 ^ b/\af (mS 0 a=mS c (a.drop b))/\K=r) (λ_ f _=>a.length-(intOf f).toNat)
 case atStart=>exact⟨0,0,rfl,rfl,Zm,Zq,rfl,rfl⟩
 case round=>
  obtain⟨b,c,rfl,rfl,b1,a7,l,rfl⟩:=hrel;have b2:10 ^ b<=10 ^ 10:=Nat.pow_le_pow_right Zm Zm;rcases Yj b a.length with o|b0
  .have a0:(0:Int)<=(b:Int):=Zm;have a1:(b:Int)<(a.length:Int):=Zm;have a9:(⟨a.toArray⟩:Za)[b]'(by simp[ByteArray.size];exact o)=a[b]:=rfl;have h:=U (EW a[b]);have j:=Uk (acc:=c) o;cases n:Mar.d0 a[b]with
   |false=>
    rw[n]at j h;have e:af (iu a g=none):=by show _=_;rw[G.i,l.i,j];rfl
    go_wp21;refine(h.i _).mono ?_;rintro m L ⟨rfl,rfl⟩;go_wp2;go_ret2;exact⟨rfl,0,by rw[e.i];rfl,λv d=>by rw[e.i]at d;cases d⟩
   |true=>
    rw[n]at j h;have c3:=(BH a[b]).1 n;have y:af (mS 0 a=mS (c*10+(a[b].toNat-48)) (a.drop (b+1))):=by show _=_;rw[l.i,j];rfl
    have b9:IntKind.u8.wrap ((a[b].toNat:Int)-48)=(a[b].toNat:Int)-48:=by rw[IntKind.wrap_u8];omega
    have a4:IntKind.i64.wrap (10*(c:Int))=10*(c:Int):=by rw[IntKind.wrap_i64];omega
    have a5:IntKind.i64.wrap (10*(c:Int)+((a[b].toNat:Int)-48))=((c*10+(a[b].toNat-48):Nat):Int):=by rw[IntKind.wrap_i64];omega
    have F:c*10+(a[b].toNat-48)<10 ^ (b+1):=by rw[Nat.pow_succ];omega
    go_wp21;refine(h.i _).mono ?_;rintro m L ⟨rfl,rfl⟩;go_wp2;exact⟨⟨b+1,c*10+(a[b].toNat-48),Zj,by congr 1<;>omega,o,F,y,trivial⟩,Zz⟩
  .have I:b=a.length:=Zm;subst I;have N:af (mS 0 a=some c):=by show _=_;rw[l.i,List.drop_length];rfl
   have a1:¬((a.length:Int)<(a.length:Int)):=Zm;cases g with
   |true=>
    have e:af (iu a true=if c<=2147483648 then some (-(c:Int))else none):=by show _=_;rw[G.i,N.i];rfl
    go_wp2;go_ret2;by_cases i:c<=2147483648
    .refine⟨rfl,-(c:Int),?_,λv d=>?_⟩
     .rw[e.i,Y9 i];simp;omega
     .rw[e.i,Y9 i]at d;injection d
    .refine⟨rfl,-(c:Int),?_,λv d=>?_⟩
     .rw[e.i,Y2 i];simp;omega
     .rw[e.i,Y2 i]at d;cases d
   |false=>
    have e:af (iu a false=if c<=4294967295 then some (c:Int)else none):=by show _=_;rw[G.i,N.i];rfl
    go_wp2;go_ret2;by_cases i:c<=4294967295
    .refine⟨rfl,(c:Int),?_,λv d=>?_⟩
     .rw[e.i,Y9 i];simp;omega
     .rw[e.i,Y9 i]at d;injection d
    .refine⟨rfl,(c:Int),?_,λv d=>?_⟩
     .rw[e.i,Y2 i];simp;omega
     .rw[e.i,Y2 i]at d;cases d
def eH(e:Zw)(d b:Int)(c:Ending)(f:Zw):Prop:=
 ∃a,e.heap.size<=a/\c=.panicked [{ v:=.iface 143 (Zp a),recovered:=false }]/\
  f.heap[a]?=some (.cells #[Y d,Y b] 179)
def RX(a:Zw)(c b:Int):eH a c b (.panicked [{ v:=.iface 143 (Zp a.heap.size),recovered:=false }]) (a.alloc (.cells #[Y c,Y b] 179)):=
 ⟨_,Y4 _,rfl,by show (a.heap.push _)[a.heap.size]?=_;simp⟩
def be{w:Zw}{o}{a:Nat}(b:a=w.heap.size):(w.alloc o).heap[a]?=some o:=by
 subst b;show (w.heap.push _)[w.heap.size]?=_;simp
def bM{d e}{a:Ending->Zw->Prop}{g:Array Zv}{c b}
  (f:a (.panicked b) c):bodyPost d e a (.panic b) { tmps:=g,defers:=[] } c:=⟨rfl,f⟩
def fp(c b:Int)(a:Zw):Calls prog 70 #[Y c,Y b] a λd e=>
   d=.returned (Zp a.heap.size)/\e=a.alloc (.cells #[Y c,Y b] 179):=by
 go_in;go_wp2;go_ret;simp
def GM(e rH c:Int)(a:Zw)(f:rH<=e):Calls prog 201 #[Y e,Y rH,Y c] a λd b=>eH a 5 c d b/\Below a.heap.size a b:=by
 go_in;go_wp2_with (go_at_call 70;refine(fp _ _ _).mono ?_;rintro d b ⟨rfl,rfl⟩);exact bM ⟨RX ..,(Below.refl ..).alloc (Y4 _) _⟩
def GO(a rH c:Int)(b:Zw)(f:¬rH<=a):Calls prog 201 #[Y a,Y rH,Y c] b λd e=>d=.returned (.tuple #[])/\e=b:=by
 go_in;go_wp2;go_end0;simp
abbrev dH(a:Mar.aU):Zv:=.agg #[Y a.w,Zs a.text,Y a.n,Y a.y]
def wN(d:Zw)(c:Except Mar.ac Mar.aU)(a:Ending)(e:Zw):Prop:=
 match c with
 |.ok f=>a=.returned (dH f)
 |.error b=>eH d b.no b.y a e
theorem sn{c a}{v:Zv}{d:Zw}(b:v=dH a):wN c (.ok a) (.returned v) d:=by
 show Ending.returned v=_;rw[b]
def abc(a:Za)(b:Nat)(c:Zw)(j:a.size<=281474976710656):Calls prog 238 #[.string a,Y b] c λe d=>wN c (Mar.ek a.data.toList b) e d/\Below c.heap.size c d:=by
 have h:af (a.size=a.data.toList.length):=Zr;by_cases i:16<a.size
 .go_in;go_wp2_with (go_at_call 70;refine(fp _ _ _).mono ?_;rintro e d ⟨rfl,rfl⟩);refine bM ⟨?_,((Below.refl ..).alloc (Y4 _) _).alloc Zq _⟩;have:Mar.ek a.data.toList b=.error ⟨7,b⟩:=by simp_all[Mar.ek]
  rw[this];exact⟨_,Zm,rfl,be Zq⟩
 .go_in;go_wp2_with (go_at_call 263;refine(Xn _ _).mono ?_;rintro e d ⟨rfl,rfl⟩)
  .have g:Mar.ee a.data.toList=true:=‹_›;have f:Mar.ek a.data.toList b=.ok ⟨2,a.data.toList,0,b⟩:=by simp_all[Mar.ek]
   refine bodyPost_ret (v:=.agg #[Y 2,.string a,Y 0,Y b]) (by simp[results,results238,go_sem]) rfl ⟨?_,(Below.refl ..).alloc (Y4 _) _⟩;simp_all[sn]
  .have g:Mar.ee a.data.toList=false:=‹_›;have f:Mar.ek a.data.toList b=.ok ⟨1,a.data.toList,0,b⟩:=by simp_all[Mar.ek]
   refine bodyPost_ret (v:=.agg #[Y 1,.string a,Y 0,Y b]) (by simp[results,results238,go_sem]) rfl ⟨?_,(Below.refl ..).alloc (Y4 _) _⟩;simp_all[sn]
section
variable {d e:Nat}{a:Zb}{b c:Zw}
structure Gl(b:Zw):Prop where
 am:∃m,b.cell? (Zd 2 0)=some (Y m)
 n3:∃te pe,b.cell? (Zd 3 0)=some (.iface te pe)
 n1:∃te pe,b.cell? (Zd 4 0)=some (.iface te pe)
def iI{v}(a:b.cell? (Zd d e)=some v):d<b.heap.size:=by
 grind [World.cell?]
def xd{a v}(h:Below a b c)(g:a=b.heap.size)(f:b.cell? (Zd d e)=some v):c.cell? (Zd d e)=some v:=by
 rw[h.cell (p:=⟨d,e,none⟩) (by rw[g];exact iI f)];exact f
def Gl.az(h:Gl b)(a:Below b.heap.size b c):Gl c:=by
 obtain⟨⟨l,i⟩,⟨e,d,j⟩,⟨f,g,k⟩⟩:=h;exact⟨⟨l,xd a rfl i⟩,⟨e,d,xd a rfl j⟩,⟨f,g,xd a rfl k⟩⟩
def RE(a:Za)(b:Zw)(i:Gl b)(f:a.size<=281474976710656):Calls prog 275 #[.string a,Y 10,Y 64] b λd c=>
   Below b.heap.size b c/\((∃v,Lib.parseIntB 64 a.data.toList=.ok v/\d=.returned (.tuple #[Y v,.nilIface]))\/
    ((∀v,Lib.parseIntB 64 a.data.toList≠.ok v)/\∃(v:Int) (k:TypeId) (j:Zv),d=.returned (.tuple #[Y v,.iface k j]))):=by
 obtain⟨_,⟨o,m,g⟩,⟨p,n,h⟩⟩:=i;cases e:Lib.parseIntB 64 a.data.toList with
 |ok v=>
  refine(Tryz.strconv_ParseInt_10_at64_ok a Zm v e b).mono ?_;rintro d c ⟨rfl,l⟩;refine⟨?_,Y8 ⟨v,rfl,rfl⟩⟩;grind [Below.refl,Lib.bytesWorld_below]
 |«syntax»=>
  refine(Tryz.strconv_ParseInt_10_at64_syntax a f e _ b g (Ya ⟨_,_,rfl⟩)).mono ?_;simp_all
 |range=>
  refine(Tryz.strconv_ParseInt_10_at64_range a f e _ b h (Ya ⟨_,_,rfl⟩)).mono ?_;simp_all
def LD(a:Zb)(b:0<(⟨a.toArray⟩:Za).size):(⟨a.toArray⟩:Za)[0]'b=a.getD 0 0:=by
 cases a with
 |nil=>exact absurd b Ze
 |cons c d=>rfl
def abu(d:1<(a.length:Int))(c:0<(⟨a.toArray⟩:Za).size)(b:((((⟨a.toArray⟩:Za)[0]'c).toNat:Int)==48)=true):Mar.fl a=true:=by
 rw[LD]at b;have:(a.getD 0 0)=48:=by
  have:=beq_iff_eq.1 b;apply UInt8.toNat_inj.1;grind
 grind [Mar.fl]
def Gb(e:1<(a.length:Int))(c:0<(⟨a.toArray⟩:Za).size)(b:((((⟨a.toArray⟩:Za)[0]'c).toNat:Int)==48)=false):Mar.fl a=false:=by
 rw[LD]at b;have:(a.getD 0 0==48)=false:=by
  rw[Yi]at b ⊢;intro d;simp_all
 grind [Mar.fl]
theorem Gc(b:(a.length:Int)<=1):Mar.fl a=false:=by
 grind [Mar.fl]
def Uh(b:Mar.fl (Lib.trimPrefix a [45])=true):Mar.e0 a=none:=by rw[Mar.e0,Y9 b]
def Bl{v}(b:Mar.fl (Lib.trimPrefix a [45])=false)(c:Lib.parseIntB 64 a=.ok v):Mar.e0 a=if -2147483648<=v/\v<=4294967295 then some v else none:=by simp_all[Mar.e0]
theorem KH(b:Mar.fl (Lib.trimPrefix a [45])=false)(c:∀v,Lib.parseIntB 64 a≠.ok v):Mar.e0 a=none:=by
 rw[Mar.e0,Y2 Zg];simp
def Bk{v:Int}{d:Bool}(f:Mar.e0 a=if -2147483648<=v/\v<=4294967295 then some v else none)
  (e:d=decide (-2147483648<=v/\v<=4294967295)) :
  ∃b:Int,Ending.returned (.tuple #[Y v,.bool d])=.returned (.tuple #[Y b,.bool (Mar.e0 a).isSome])/\∀c,Mar.e0 a=some c->b=c:=by
 subst e;by_cases g:-2147483648<=v/\v<=4294967295;all_goals simp_all
def Um(e:Za)(b:Zw)(j:Gl b)(k:e.size<=281474976710656):Calls prog 265 #[.string e] b λg c=>
   (∃h:Int,g=.returned (.tuple #[Y h,.bool (Mar.e0 e.data.toList).isSome])/\∀v,Mar.e0 e.data.toList=some v->h=v)/\Below b.heap.size b c:=by
 have i:=U (RE e b j k);go_in;go_wp2_with (first
  |(go_at_call 274;refine(Tryz.strings_TrimPrefix _ _ _).mono ?_;rintro g c ⟨rfl,rfl⟩)
  |(go_at_call 275;refine i.i.mono ?_;rintro g c ⟨f,⟨v,d,rfl⟩|⟨d,v,m,l,rfl⟩⟩))
 .go_ret2;have a:=Uh (abu ‹_› _ ‹_›);simp_all[Below.refl]
 .go_ret2;have a:=Bl (Gb ‹_› _ ‹_›) d;exact⟨Bk a Zu,f⟩
 .go_ret2;have a:=Bl (Gb ‹_› _ ‹_›) d;exact⟨Bk a Zg,f⟩
 .go_ret2;have a:=KH (Gb ‹_› _ ‹_›) d;simp_all
 .go_ret2;have a:=Bl (Gc ‹_›) d;exact⟨Bk a Zu,f⟩
 .go_ret2;have a:=Bl (Gc ‹_›) d;exact⟨Bk a Zg,f⟩
 .go_ret2;simp_all[KH,Gc]
end
def Ft:Option Nat->Zv
 |some v=>.tuple #[.int .u64 v,.nilIface]
 |none=>.tuple #[.int .u64 0,.iface 467 (.int .i64 2)]
def acw:∀a:Nat,a<8->16 ^ (a+1)<=4294967296
 |0,_|1,_|2,_|3,_|4,_|5,_|6,_|7,_=>by decide
 |a+8,b=>by omega
def ZR(b:UInt8):(∀c,Mar.df b=some c->¬(48<=b.toNat/\b.toNat<=57)->97<=bits .or .u8 (b.toNat:Int) 32/\bits .or .u8 (b.toNat:Int) 32<=102/\bits .or .u8 (b.toNat:Int) 32=(c:Int)+87)/\
  (Mar.df b=none->¬(48<=b.toNat/\b.toNat<=57)->bits .or .u8 (b.toNat:Int) 32<97\/102<bits .or .u8 (b.toNat:Int) 32):=by
 have key:∀a:Fin 256,bits .or .u8 ((a.val:Nat):Int) 32=((a.val ||| 32:Nat):Int):=by decide +kernel
 have h:∀a:Fin 256,¬(48<=a.val/\a.val<=57)->(97<=a.val/\a.val<=102->(a.val ||| 32)=a.val)/\(65<=a.val/\a.val<=70->(a.val ||| 32)=a.val+32)/\
  (¬(97<=a.val/\a.val<=102)->¬(65<=a.val/\a.val<=70)->(a.val ||| 32)<97\/102<(a.val ||| 32)):=by decide +kernel
 have d:=b.toNat_lt;have g:=key ⟨b.toNat,d⟩;simp only at g;rw[g];refine⟨?_,?_⟩
 .intro c e f;obtain⟨i,j,_⟩:=h ⟨b.toNat,d⟩ f;simp only at i j;unfold Mar.df at e;grind
 .intro e f;obtain⟨_,_,k⟩:=h ⟨b.toNat,d⟩ f;simp only at k;unfold Mar.df at e;grind
def RF(d:Za)(b3:d.size≠0)(b2:d.size<=8)(i:Zw):Calls prog 278 #[.string d,Y 16,Y 32] i λo z=>o=.returned (Ft (Mar.cx 0 d.data.toList))/\z=Lib.bytesWorld i 5 d:=by
 have b0:d.toList.isEmpty=false:=by
  rw[<-decide_eq_emptyBytes];simp_all
 have I:=Lib.run_convert_string_bytes (P:=prog) i 9 97 5 d (u:=.string) Zk Zk Zk;have p:∀n,n<d.size->(Lib.bytesWorld i 5 d).cell? (Zd i.heap.size n)=some (.int .u8 (d.data.toList.getD n 0).toNat):=λn J=>Lib.bytesWorld_cell i 5 d n J;obtain⟨W1,B⟩:∃W1,W1=Lib.bytesWorld i 5 d:=⟨_,rfl⟩;rw[<-B]at I p ⊢;clear B;obtain⟨c,A⟩:∃c,c=d.data.toList:=⟨_,rfl⟩;have a5:c.length=d.size:=Zu;rw[<-A]at p ⊢;clear A;go_in;go_wp2;go_loop [12,13,101] (λR vn y=>∃(a e:Nat) (g:Int),R=.bool false/\vn=.int .u64 g/\y=Y a/\a<=d.size/\af (g=(e:Int)/\e<16 ^ a/\Mar.cx 0 c=Mar.cx e (c.drop a)))
  (λ_ _ y=>d.size-(intOf y).toNat)
 case atStart=>exact⟨0,0,0,rfl,rfl,rfl,Zm,rfl,Zm,rfl⟩
 case round=>
  obtain⟨a,e,g,rfl,rfl,rfl,b1,F⟩:=hrel;obtain⟨q,r,f⟩:=F.i;clear F;by_cases L:a<d.size
  .have G:16 ^ (a+1)<=4294967296:=acw a Zm;have H:16 ^ (a+1)=16 ^ a*16:=rfl;have a1:0<=g:=Zm;have a2:g*16+15<4294967296:=Zm;have S:=U (Yp G H);clear G H;have C:=p a L;have D:c.drop a=c[a]' Zm::c.drop (a+1):=Yk Zm;have E:c.getD a 0=c[a]' Zm:=Zg;rw[D]at f;rw[E]at C;generalize c[a]' Zm=b at C f;have a6:b.toNat<256:=b.toNat_lt;clear p D E;by_cases l:48<=b.toNat/\b.toNat<=57
   .obtain⟨a8,a9⟩:=l;have hF:Mar.cx e (b::c.drop (a+1))=Mar.cx (e*16+(b.toNat-48)) (c.drop (a+1)):=by grind [Mar.cx,Mar.df]
    have w:af (g*16+((b.toNat:Int)-48)=((e*16+(b.toNat-48):Nat):Int)/\e*16+(b.toNat-48)<16 ^ (a+1)/\Mar.cx 0 c=Mar.cx (e*16+(b.toNat-48)) (c.drop (a+1))):=
     Lib.hid ⟨Zm,Zm,f.trans hF⟩
    clear hF f q r;go_wp2;exact⟨⟨a+1,_,g*16+((b.toNat:Int)-48),rfl,rfl,Zr,Zm,w⟩,Zz⟩
   .obtain⟨v,x⟩:∃v,bits .or .u8 (b.toNat:Int) 32=v:=⟨_,rfl⟩;have m:=ZR b;have j:(b.toNat:Int)<48\/57<(b.toNat:Int):=Zm;rw[x]at m;have a0:=U x;cases h:Mar.df b with
    |some k=>
     have a7:=Mar.i5 h;have a4:((b.toNat:Int)==95)=false:=by
      rw[Yi];intro o;have a3:b=95:=UInt8.toNat_inj.1 Zg;simp_all[Mar.df]
     obtain⟨s,b4,O⟩:=m.1 k h l;have hF:Mar.cx e (b::c.drop (a+1))=Mar.cx (e*16+k) (c.drop (a+1)):=by simp[Mar.cx,h]
     have w:af (g*16+(v-97+10)=((e*16+k:Nat):Int)/\e*16+k<16 ^ (a+1)/\Mar.cx 0 c=Mar.cx (e*16+k) (c.drop (a+1))):=
      Lib.hid ⟨Zm,Zm,f.trans hF⟩
     clear hF f q r h m O l;rcases j with j|j;all_goals
      go_wp2_with (go_at_call 285;refine(Tryz.internal_strconv_lower _ _).mono ?_;rintro o z ⟨rfl,rfl⟩);exact⟨⟨a+1,_,g*16+(v-97+10),rfl,rfl,Zj,Zm,w⟩,Zz⟩
    |none=>
     have s:=m.2 h l;have hF:Mar.cx e (b::c.drop (a+1))=none:=by simp[Mar.cx,h]
     rw[hF]at f;have M:=bits_lo_u8 .or (b.toNat:Int) 32;have N:=bits_hi_u8 .or (b.toNat:Int) 32;rw[x]at M N;have t:=U f;clear hF f q r h m l;rcases j with j|j;all_goals rcases s with s|s
     all_goals
      go_wp2_with (go_at_call 285;refine(Tryz.internal_strconv_lower _ _).mono ?_;rintro o z ⟨rfl,rfl⟩)
     all_goals go_ret2
     all_goals exact⟨by rw[t.i];rfl,rfl⟩
  .have K:a=d.size:=Zm;subst K;have hF:Mar.cx e (c.drop d.size)=some e:=by rw[YR Zm];rfl
   rw[hF]at f;have t:=U f;subst q;clear r hF f;go_wp2;go_ret2;exact⟨by rw[t.i];rfl,rfl⟩
section
variable {a:Zb}{b:Option Int}
def LE:∀(a:Zb) (b v:Nat),Mar.cx b a=some v->v<(b+1)*16 ^ a.length
 |[],b,v,d=>by grind [Mar.cx]
 |c::e,b,v,d=>by
  unfold Mar.cx at d;cases f:Mar.df c with
  |none=>simp_all
  |some g=>
   rw[f]at d;have i:=Mar.i5 f;have:=LE e _ _ d;have h:(b*16+g+1)*16 ^ e.length<=(b+1)*16*16 ^ e.length:=Nat.mul_le_mul_right _ Zm;grind
def WJ{v}(b:Mar.cx 0 a=some v)(c:a.length<=8):v<4294967296:=by
 have d:=LE a 0 v b;have e:16 ^ a.length<=16 ^ 8:=Nat.pow_le_pow_right Zm c;omega
def RG(b:Za)(e:Zw)(r:Gl e)(q:b.size<=8):Calls prog 273 #[.string b,Y 16,Y 32] e λd f=>
   Below e.heap.size e f/\((∃v:Nat,b.size≠0/\Mar.cx 0 b.data.toList=some v/\v<4294967296/\d=.returned (.tuple #[.int .u64 v,.nilIface]))\/
    ((b.size=0\/Mar.cx 0 b.data.toList=none)/\∃(u:TypeId) (t:Zv),d=.returned (.tuple #[.int .u64 0,.iface u t]))):=by
 obtain⟨_,⟨x,w,n⟩,_⟩:=r;by_cases k:b.size=0
 .have:b=⟨#[]⟩:=by
   obtain⟨⟨a⟩⟩:=b;have:a=[]:=List.eq_nil_of_length_eq_zero k;simp_all
  subst this;go_in;go_wp2_with (first
   |(go_at_call 278;refine(Tryz.internal_strconv_ParseUint_empty _ _ _).mono ?_;rintro d f ⟨rfl,rfl⟩)
   |(go_at_call 279;refine(Tryz.strconv_toError_syntax _ _ _ _ _ _ Ze n (Ya ⟨_,_,rfl⟩)).mono ?_;rintro d f ⟨p,rfl,_,_,m⟩))
  go_ret2;simp_all
 .have c:=RF b k q e;have h:=Lib.bytesWorld_below e 5 b;have o:=xd h rfl n;obtain⟨W1,l⟩:∃W1,W1=Lib.bytesWorld e 5 b:=⟨_,rfl⟩;rw[<-l]at c h o;clear l;have i:=U h;clear h;cases g:Mar.cx 0 b.data.toList with
  |some v=>
   rw[g]at c;simp only[Ft]at c;have s:=WJ g Zu;have j:=U c;clear c g;go_in;go_wp2_with (go_at_call 278;refine j.i.mono ?_;rintro d f ⟨rfl,rfl⟩);go_ret2;exact⟨i.i,Y8 ⟨v,k,rfl,s,rfl⟩⟩
  |none=>
   rw[g]at c;simp only[Ft]at c;have j:=U c;clear c g;go_in;go_wp2_with (first
    |(go_at_call 278;refine j.i.mono ?_;rintro d f ⟨rfl,rfl⟩)
    |(go_at_call 279;refine(Tryz.strconv_toError_syntax _ _ _ _ _ _ Zm o (Ya ⟨_,_,rfl⟩)).mono ?_;rintro d f ⟨p,rfl,_,_,m⟩))
   go_ret2;exact⟨i.i.trans (m.mono i.i.size),Ya ⟨Zq,_,_,rfl⟩⟩
def WL(b:a.length=0\/Mar.cx 0 a=none):Mar.f9 a=none:=by
 grind [Mar.f9]
def WM{v}(d:a.length<=8)(c:a.length≠0)(b:Mar.cx 0 a=some v):Mar.f9 a=some (v:Int):=by
 simp_all[Mar.f9]
def WN(a:Za)(c:Zw)(l:Gl c)(q:a.size<=281474976710656):Calls prog 264 #[.string a] c λf h=>
   (∃g:Int,f=.returned (.tuple #[Y g,.bool (Mar.f9 a.data.toList).isSome])/\∀v,Mar.f9 a.data.toList=some v->g=v)/\Below c.heap.size c h:=by
 have j:af (a.size=a.data.toList.length):=Zr;by_cases o:8<a.size
 .have e:Mar.f9 a.data.toList=none:=by simp_all[Mar.f9]
  rw[e];go_in;go_wp2;go_ret2;simp_all[Below.refl]
 .have i:=U (RG a c l Zm);go_in;go_wp2_with (go_at_call 273;refine i.i.mono ?_;rintro f h ⟨k,⟨v,n,b,p,rfl⟩|⟨b,s,r,rfl⟩⟩)
  .have d:=U b;clear b;go_region;go_wp2;go_ret2;have e:=WM Zu Zu d.i;exact⟨⟨v,Zu,λt m=>by simp_all⟩,k.drew⟩
  .have d:=U b;clear b;go_region;go_wp2;go_ret2;have e:=WL (by rw[<-j.i];exact d.i);simp_all[Below.drew]
def abw(b:Lib.hasPrefix a [48,120]=true):Mar.f1 a=Mar.f9 (Lib.trimPrefix a [48,120]):=by
 simp[Mar.f1,b,Lib.trimPrefix]
def abv(b:Lib.hasPrefix a [48,120]=false):Mar.f1 a=Mar.e0 a:=by
 simp[Mar.f1,b]
def xb{c e:Zw}(f:Below c.heap.size c e):(∀a b,a<c.heap.size->e.cell? (Zd a b)=c.cell? (Zd a b))/\(∀a b,a<c.heap.size->e.frozen? ⟨a,b,none⟩=c.frozen? ⟨a,b,none⟩):=
 ⟨λa b d=>f.cell (p:=⟨a,b,none⟩) d,λa b d=>f.frozen (p:=⟨a,b,none⟩) d⟩
def MY{at':Nat}(c:Mar.f1 a=b)(d:b.isNone=true):Mar.f5 a at'=.error ⟨4,at'⟩:=by
 grind [Mar.f5]
def MZ{at':Nat}{c:Int}(d:Mar.f1 a=b)(e:b.isSome=true)(f:∀v,b=some v->c=v):Mar.f5 a at'=.ok ⟨3,a,c,at'⟩:=by
 cases b<;>simp_all[Mar.f5]
def abB(d:Za)(at':Nat)(g:Zw)(r:Gl g)(s:d.size<=281474976710656):Calls prog 241 #[.string d,Y at'] g λf e=>wN g (Mar.f5 d.data.toList at') f e/\Below g.heap.size g e:=by
 have o:∀b,Gl (g.alloc b):=λb=>r.az ((Below.refl ..).alloc (Y4 _) _);have q:(⟨(Lib.trimPrefix d.data.toList [48,120]).toArray⟩:Za).size<=281474976710656:=by
  have:=HC d.data.toList [48,120];show (Lib.trimPrefix d.data.toList [48,120]).toArray.size<=_;grind [Lib.size_eq]
 cases p:Lib.hasPrefix d.data.toList [48,120]with
 |true=>
  have a:=abw p;have h:=U a;clear a;go_in;go_wp2_with (first
   |(go_at_call 260;refine(Tryz.strings_CutPrefix _ _ _).mono ?_;rintro f e ⟨rfl,rfl⟩)
   |(go_at_call 264;refine(WN _ _ (o _) q).mono ?_;rintro f e ⟨⟨n,rfl,a⟩,c⟩;obtain⟨l,m⟩:=xb c;have j:=c.size;simp at j;have k:=U a;clear a)
   |(go_at_call 70;refine(fp _ _ _).mono ?_;rintro f e ⟨rfl,rfl⟩))
  .have i:=MY (at':=at') h.i ‹_›;refine bM ⟨?_,?_⟩
   .rw[i];exact⟨_,Zm,rfl,be rfl⟩
   .exact(((Below.refl ..).alloc (Y4 _) _).trans (c.mono Zq)).alloc Zm _
  .have i:=MZ (at':=at') h.i Zu k.i;refine bodyPost_ret (v:=.agg #[Y 3,.string d,Y n,Y at']) (by simp[results,results241,go_sem,l,m,j]) rfl ⟨?_,?_⟩
   .simp_all[sn]
   .exact((((((Below.refl ..).alloc (Y4 _) _).trans (c.mono Zq)).setCell (Y4 _) _).setCell (Y4 _) _).setCell (Y4 _) _).setCell (Y4 _) _
 |false=>
  have a:=abv p;have h:=U a;clear a;go_in;go_wp2_with (first
   |(go_at_call 260;refine(Tryz.strings_CutPrefix _ _ _).mono ?_;rintro f e ⟨rfl,rfl⟩)
   |(go_at_call 265;refine(Um _ _ (o _) s).mono ?_;rintro f e ⟨⟨n,rfl,a⟩,c⟩;obtain⟨l,m⟩:=xb c;have j:=c.size;simp at j;have k:=U a;clear a)
   |(go_at_call 70;refine(fp _ _ _).mono ?_;rintro f e ⟨rfl,rfl⟩))
  .have i:=MY (at':=at') h.i ‹_›;refine bM ⟨?_,?_⟩
   .rw[i];exact⟨_,Zm,rfl,be rfl⟩
   .exact(((Below.refl ..).alloc (Y4 _) _).trans (c.mono Zq)).alloc Zm _
  .have i:=MZ (at':=at') h.i Zu k.i;refine bodyPost_ret (v:=.agg #[Y 3,.string d,Y n,Y at']) (by simp[results,results241,go_sem,l,m,j]) rfl ⟨?_,?_⟩
   .simp_all[sn]
   .exact((((((Below.refl ..).alloc (Y4 _) _).trans (c.mono Zq)).setCell (Y4 _) _).setCell (Y4 _) _).setCell (Y4 _) _).setCell (Y4 _) _
end
def wN.cases{f b d g}(e:wN f b d g):(∃c,b=.ok c/\d=.returned (dH c))\/(∃a,b=.error a/\eH f a.no a.y d g):=by
 cases b with
 |ok c=>exact Y8 ⟨c,rfl,e⟩
 |error a=>exact Ya ⟨a,rfl,e⟩
theorem Ov(a:UInt8):(0<=Lib.indexByte [123,125,40,41,91,93,60,62,42,44,59,58,61] a)↔Mar.fK a=true:=by
 have key:∀b:Fin 256,(0<=Lib.indexByte [123,125,40,41,91,93,60,62,42,44,59,58,61] (UInt8.ofNat b.val))↔Mar.fK (UInt8.ofNat b.val)=true:=by decide +kernel
 have:=key ⟨a.toNat,a.toNat_lt⟩;simp_all
theorem Of(a:Zb):(Mar.a9 a).length<=a.length:=by
 cases a<;>grind [Mar.a9,List.takeWhile_sublist]
theorem Lf{a:UInt8}(b:((a.toNat:Int)==45)=true):(a==45)=true:=by
 have:=beq_iff_eq.1 b;have c:a=45:=UInt8.toNat_inj.1 Zg;simp_all
theorem MQ{a:UInt8}(b:((a.toNat:Int)==45)=false):(a==45)=false:=by
 rw[Yi]at b ⊢;intro c;simp_all
def abT(a:Za)(b:0<a.size):a.extract 0 1=⟨[a[0]].toArray⟩:=by
 rw[Bs];obtain⟨⟨c⟩⟩:=a;cases c with
 |nil=>exact absurd b Ze
 |cons d e=>rfl
def VN(a:Za)(b:Nat)(l:Zw)(C:Gl l)(F:a.size<=281474976710656):Calls prog 183 #[.string a,Y b] l λf m=>wN l (Mar.c9 a.data.toList b) f m/\Below l.heap.size l m:=by
 have D:∀x,Gl (l.alloc x):=λx=>C.az ((Below.refl ..).alloc (Y4 _) _);by_cases z:a.size=0
 .have:a=⟨#[]⟩:=by
   obtain⟨⟨t⟩⟩:=a;have:t=[]:=List.eq_nil_of_length_eq_zero z;simp_all
  subst this;go_in;go_wp2;refine bodyPost_ret (v:=.agg #[Y 0,.string ⟨#[]⟩,Y 0,Y b]) (by simp[results,results183,go_sem]) rfl ⟨sn rfl,(Below.refl ..).alloc (Y4 _) _⟩
 .have u:0<a.size:=Zm;have J:a.toList.isEmpty=false:=by
   rw[<-decide_eq_emptyBytes];simp_all
  have B:Mar.c9 a.data.toList b=(if Mar.eF a[0]then Mar.ek (Mar.a9 a.data.toList) b
    else if Mar.d0 a[0]||a[0]==45 then Mar.f5 (Mar.a9 a.data.toList) b else if Mar.fK a[0]then .ok ⟨4,[a[0]],0,b⟩else .error ⟨2,b⟩):=by
   obtain⟨⟨t⟩⟩:=a;cases t with
   |nil=>simp_all
   |cons I K=>rfl
  have w:(⟨(Mar.a9 a.data.toList).toArray⟩:Za).size<=281474976710656:=by
   have:=Of a.data.toList;show (Mar.a9 a.data.toList).toArray.size<=_;grind [Lib.size_eq]
  have h:=U B;go_in;go_wp2_with (first
   |(go_at_call 237;refine(LP _ _).mono ?_;rintro f m ⟨rfl,rfl⟩)
   |(go_at_call 240;refine(LO _ _).mono ?_;rintro f m ⟨rfl,rfl⟩)
   |(go_at_call 239;refine(ad7 _ _ F u).mono ?_;rintro f G ⟨rfl,d⟩;have E:=U ((D _).az d))
   |(go_at_call 238;refine(abc _ _ _ w).mono ?_;rintro f H ⟨r,q⟩;have e:=d.trans (q.mono d.size);obtain⟨j,k⟩:=xb e;have g:=e.size;simp at g;rcases r.cases with⟨i,s,rfl⟩|⟨o,s,n,A,rfl,p⟩)
   |(go_at_call 241;refine(abB _ _ _ E.i w).mono ?_;rintro f H ⟨r,q⟩;have e:=d.trans (q.mono d.size);obtain⟨j,k⟩:=xb e;have g:=e.size;simp at g;rcases r.cases with⟨i,s,rfl⟩|⟨o,s,n,A,rfl,p⟩)
   |(go_at_call 236;refine(Tryz.strings_IndexByte _ _ _).mono ?_;rintro f m ⟨rfl,rfl⟩)
   |(go_at_call 242;refine(Ax _ _ Zx).mono ?_;rintro f G ⟨rfl,d⟩;obtain⟨j,k⟩:=xb d;have g:=d.size;simp at g)
   |(go_at_call 70;refine(fp _ _ _).mono ?_;rintro f m ⟨rfl,rfl⟩))
  .have c:Mar.c9 a.data.toList b=.ok i:=by rw[h.i];simp_all
   refine bodyPost_ret (v:=dH i) (by simp[results,results183,go_sem,j,k,g]) rfl ⟨?_,?_⟩
   .simp_all[sn]
   .exact((((((Below.refl ..).alloc (Y4 _) _).trans (e.mono Zq)).setCell (Y4 _) _).setCell (Y4 _) _).setCell (Y4 _) _).setCell (Y4 _) _
  .have c:Mar.c9 a.data.toList b=.error o:=by rw[h.i];simp_all
   refine bM ⟨?_,((Below.refl ..).alloc (Y4 _) _).trans (e.mono Zq)⟩;rw[c];exact⟨n,by have:=d.size;simp at this;omega,rfl,p⟩
  .have c:Mar.c9 a.data.toList b=.ok i:=by rw[h.i];simp_all
   refine bodyPost_ret (v:=dH i) (by simp[results,results183,go_sem,j,k,g]) rfl ⟨?_,?_⟩
   .simp_all[sn]
   .exact((((((Below.refl ..).alloc (Y4 _) _).trans (e.mono Zq)).setCell (Y4 _) _).setCell (Y4 _) _).setCell (Y4 _) _).setCell (Y4 _) _
  .have c:Mar.c9 a.data.toList b=.error o:=by rw[h.i];simp_all
   refine bM ⟨?_,((Below.refl ..).alloc (Y4 _) _).trans (e.mono Zq)⟩;rw[c];exact⟨n,by have:=d.size;simp at this;omega,rfl,p⟩
  .have c:Mar.c9 a.data.toList b=.ok i:=by rw[h.i];simp_all[Lf]
   refine bodyPost_ret (v:=dH i) (by simp[results,results183,go_sem,j,k,g]) rfl ⟨?_,?_⟩
   .simp_all[sn]
   .exact((((((Below.refl ..).alloc (Y4 _) _).trans (e.mono Zq)).setCell (Y4 _) _).setCell (Y4 _) _).setCell (Y4 _) _).setCell (Y4 _) _
  .have c:Mar.c9 a.data.toList b=.error o:=by rw[h.i];simp_all[Lf]
   refine bM ⟨?_,((Below.refl ..).alloc (Y4 _) _).trans (e.mono Zq)⟩;rw[c];exact⟨n,by have:=d.size;simp at this;omega,rfl,p⟩
  .have c:Mar.c9 a.data.toList b=.ok ⟨4,[a[0]],0,b⟩:=by rw[h.i];simp_all[MQ,Ov]
   refine bodyPost_ret (v:=.agg #[Y 4,.string (a.extract 0 1),Y 0,Y b]) (by simp[results,results183,go_sem,j,k,g]) rfl ⟨?_,?_⟩
   .rw[c];exact sn (by simp only[dH,abT a u];rfl)
   .exact((((((Below.refl ..).alloc (Y4 _) _).trans (d.mono Zq)).setCell (Y4 _) _).setCell (Y4 _) _).setCell (Y4 _) _).setCell (Y4 _) _
  .have c:Mar.c9 a.data.toList b=.error ⟨2,b⟩:=by
    rw[h.i];rw[Y2 Zg,Y2 (by simp[MQ Zt, *]),Y2 (λy=>by have:=(Ov _).2 y;omega)]
   refine bM ⟨?_,((Below.refl ..).alloc (Y4 _) _).alloc Zq _⟩;rw[c];exact⟨_,Zm,rfl,be Zq⟩
section
variable {c:List Nat}{T:TypeId}{a b w d:Zw}{f n e:Zv}{p:Addr}
structure ap(c:List Nat)(w d:Zw):Prop where
 os:d.os=w.os
 dt:d.tape=w.tape
 ds:d.output=w.output
 aG:w.heap.size<=d.heap.size
 ak:∀k,k<w.heap.size->k ∉ c->d.heap[k]?=w.heap[k]?
theorem ar(c:List Nat)(w:Zw):ap c w w:=⟨rfl,rfl,rfl,Y4 _,λ_ _ _=>rfl⟩
def ef(c:List Nat)(a:Below w.heap.size w d):ap c w d:=⟨a.os,a.tape,a.output,a.size,λe b _=>a.block e b⟩
theorem ap.u{f}(d:ap c a b)(e:ap c b f):ap c a f:=
 ⟨e.os.trans d.os,e.dt.trans d.dt,e.ds.trans d.ds,Yz d.aG e.aG,λi g h=>(e.ak i (Yr g d.aG) h).trans (d.ak i g h)⟩
theorem ap.aZ{M':List Nat}(d:ap c a b)(h:∀j∈c,j∈M'):ap M' a b:=
 ⟨d.os,d.dt,d.ds,d.aG,λe g i=>d.ak e g (λf=>i (h e f))⟩
def ap.l5(d:ap c a b)(n:Nat):ap c a (b.drewN n):=⟨d.os,d.dt,d.ds,d.aG,d.ak⟩
theorem ap.ag(d:ap c a b):ap c a b.drew:=⟨d.os,d.dt,d.ds,d.aG,d.ak⟩
def ap.A(d:ap c a b)(e:Obj):ap c a (b.alloc e):=
 d.u (ef c ((Below.refl ..).alloc (Y4 _) _))
def ap.a6(e:ap c a b)(g:p.block∈c)(h:Zv):ap c a (b.setCell p h):=
 e.u ⟨rfl,rfl,rfl,Zq,λi _ f=>Below.heap_setCell _ _ _ _ (λd=>f (d▸g))⟩
def ap.c0(d:ap c a b)(i:a.heap.size<=p.block)(h:Zv):ap c a (b.setCell p h):=
 ⟨d.os,d.dt,d.ds,Yz d.aG Zq,λg e f=>(Below.heap_setCell _ _ _ _ Zm).trans (d.ak g e f)⟩
def jo(S:Nat)(d:Za)(b:Nat)(c e n a f:Zv)(w:Zw):Prop:=
 w.heap[S]?=some (.cells #[.string d,Y b,c,e,n,a,f] 222)
def jo.a2{S d b c a}(g:jo S d b c e n a f w):w.cell? (Zd S 0)=some (.string d)/\w.cell? (Zd S 1)=some (Y b)/\w.cell? (Zd S 2)=some c/\w.cell? (Zd S 3)=some e/\
  w.cell? (Zd S 4)=some n/\w.cell? (Zd S 5)=some a/\w.cell? (Zd S 6)=some f/\S<w.heap.size/\∀h,w.frozen? ⟨S,h,none⟩=false:=by
 unfold jo at g;have i:S<w.heap.size:=by
  grind
 simp_all[World.cell?,World.frozen?]
def ci{b i:Nat}{cs a}(c:w.heap[b]?=some (.cells cs T a))(v:Zv):(w.setCell ⟨b,i,none⟩ v).heap[b]?=some (.cells (cs.setIfInBounds i v) T a):=by
 grind [World.setCell]
def GY{b:Nat}{k a k' t' n' a':Zv}{c}(d:w.heap[b]?=some (.cells #[k,e,n,a] T c)):((((w.setCell ⟨b,0,none⟩ k').setCell ⟨b,1,none⟩ t').setCell ⟨b,2,none⟩ n').setCell ⟨b,3,none⟩ a').heap[b]?=some (.cells #[k',t',n',a'] T c):=by
 have f:=ci (i:=0) d k';have g:=ci (i:=1) f t';have h:=ci (i:=2) g n';have j:=ci (i:=3) h a';exact j
def tC{b:Nat}{c a:Zv}(f:w.heap[b]?=some (.cells #[c,e,n,a] T)):w.cell? (Zd b 0)=some c/\w.cell? (Zd b 1)=some e/\w.cell? (Zd b 2)=some n/\w.cell? (Zd b 3)=some a/\∀d,w.frozen? ⟨b,d,none⟩=false:=by
 simp_all[World.cell?,World.frozen?]
def Fg{a}{c:Nat}{b}(d:Mar.c9 a c=.ok b):b.text.length<=a.length:=by
 cases a<;>grind [Mar.c9,Of,Mar.ek,Mar.f5]
def qJ(b:Zb)(a:Nat):Except Mar.ac (Mar.aU×Nat):=
 match Mar.c9 (b.drop (a+Mar.es (b.drop a))) (a+Mar.es (b.drop a))with
 |.ok c=>.ok (c,a+Mar.es (b.drop a)+c.text.length)
 |.error d=>.error d
def Gl.ae(j:Gl w)(p:ap c w d)(k:2 ∉ c)(l:3 ∉ c)(m:4 ∉ c):Gl d:=by
 have key:∀b v,b ∉ c->w.cell? (Zd b 0)=some v->d.cell? (Zd b 0)=some v:=by
  intro b v n o;have:=p.ak b (iI o) n;grind [World.cell?]
 obtain⟨⟨q,g⟩,⟨a,b,h⟩,⟨e,f,i⟩⟩:=j;exact⟨⟨q,key _ _ k g⟩,⟨a,b,key _ _ l h⟩,⟨e,f,key _ _ m i⟩⟩
def jo.gn{S h b g a}(c:jo S h b g e n a f w)(d:Gl w):2≠S/\3≠S/\4≠S:=by
 obtain⟨i,_⟩:=c.a2;obtain⟨⟨m,j⟩,⟨_,_,k⟩,⟨_,_,l⟩⟩:=d;grind
def aei{S:Nat}{j:Za}{k:Nat}{h a:Zv}(b:jo S j k h e n a f w)(d:Gl w)(nq:Nat)(v:Zv){p:Nat}(m:v=Y p):ap [S] w (((w.alloc (.cells #[Y 0,.string ⟨#[]⟩,Y 0,Y 0] 154)).drewN nq).setCell ⟨S,1,none⟩ v)/\
  jo S j p h e n a f (((w.alloc (.cells #[Y 0,.string ⟨#[]⟩,Y 0,Y 0] 154)).drewN nq).setCell ⟨S,1,none⟩ v)/\
  Gl (((w.alloc (.cells #[Y 0,.string ⟨#[]⟩,Y 0,Y 0] 154)).drewN nq).setCell ⟨S,1,none⟩ v)/\
  w.heap.size<(((w.alloc (.cells #[Y 0,.string ⟨#[]⟩,Y 0,Y 0] 154)).drewN nq).setCell ⟨S,1,none⟩ v).heap.size/\
  (((w.alloc (.cells #[Y 0,.string ⟨#[]⟩,Y 0,Y 0] 154)).drewN nq).setCell ⟨S,1,none⟩ v).heap[w.heap.size]?=some (.cells #[Y 0,.string ⟨#[]⟩,Y 0,Y 0] 154):=by
 subst m;have l:S<w.heap.size:=b.a2.2.2.2.2.2.2.2.1;have c:=((Below.refl w.heap.size w).alloc (Y4 _) (.cells #[Y 0,.string ⟨#[]⟩,Y 0,Y 0] 154));have g:=((ef [S] c).l5 nq).a6 (p:=⟨S,1,none⟩) Zq (Y p);refine⟨g,?_,?_,?_,?_⟩
 .exact ci (i:=1) ((c.block S l).trans b) _
 .obtain⟨o,q,r⟩:=b.gn d;exact d.ae g Zg Zg Zg
 .simp
 .exact(Below.heap_setCell _ _ _ _ Zg).trans (be rfl)
def aeh(S:Nat)(c:Za)(i:Nat)(o e n a f:Zv)(w:Zw)(a8:jo S c i o e n a f w)(a0:Gl w)(f4:i<=c.size)(h2:c.size<=4000000000):Calls prog 117 #[Zp S] w λs d=>ap [S] w d /\
   ((∃g p,qJ c.data.toList i=.ok (g,p)/\p<=c.size/\s=.returned (dH g)/\jo S c p o e n a f d)\/
    (∃j,qJ c.data.toList i=.error j/\eH w j.no j.y s d)):=by
 obtain⟨b8,b9,c0,c1,c2,c3,c4,g8,d7⟩:=a8.a2;obtain⟨e8,a4⟩:=a0.am;have a5:=λG=>xd (((Below.refl w.heap.size w).alloc (Y4 _) G).drew) rfl a4;have L:=U a5;clear a4 a5;have l:(c.extract i c.size).size<4294967281:=Zx;go_in;have a6:i+Mar.es (c.data.toList.drop i)<=c.size:=by
  grind [Mar.k7,Lib.size_eq,Mar.es]
 have R:(c.extract i c.size).data.toList=c.data.toList.drop i:=Fb c i;have u:=λk e4=>ae7 (c.extract i c.size) e8 k l e4;rw[R]at u;obtain⟨q,O⟩:∃q,af (Mar.es (c.data.toList.drop i)=q):=⟨_,rfl⟩;rw[O.i]at u a6;have M:=U u;clear u R;have b7:af (IntKind.i64.wrap ((i:Int)+(q:Int))=((i+q:Nat):Int)):=by
  show IntKind.i64.wrap ((i:Int)+(q:Int))=_;grind [IntKind.wrap_i64]
 go_upto_region 1 with fail;go_cut [] (λwc=>ap [S] w wc/\jo S c (i+q) o e n a f wc/\Gl wc/\w.heap.size<wc.heap.size/\wc.heap[w.heap.size]?=some (.cells #[Y 0,.string ⟨#[]⟩,Y 0,Y 0] 154));case first=>
  go_region_with (first|(go_at_call 182;refine(M.i _ ?_).mono ?_;exact L.i _;rintro s d ⟨rfl,nq,rfl⟩));all_goals (go_wp21)
  all_goals go_meet
  all_goals exact aei a8 a0 _ _ (by rw[b7.i])
 case rest=>
  rename Zw=>h;obtain⟨p,N⟩:∃p,af (i+q=p):=⟨_,rfl⟩;rw[N.i]at hcut a6;obtain⟨a2,a9,a1,C,a7⟩:=hcut;obtain⟨c5,c6,c7,c8,c9,d0,d1,e3,g2⟩:=a9.a2;obtain⟨b0,b1,b2,b3,d8⟩:=tC a7;have h0:¬h.heap.size=S:=Zm;have h1:¬S=h.heap.size:=Zm;have g5:(0:Int)<=p:=Zm;have g6:(p:Int)<=c.size:=Zm;have e7:(c.extract p c.size).size<=281474976710656:=Zx;have B:=λk e0=>VN (c.extract p c.size) p k e0 e7;rw[Fb]at B;have J:=U (a1.az ((Below.refl h.heap.size h).drew));have K:=U (λG=>a1.az (((Below.refl h.heap.size h).alloc (Y4 _) G).drew));have z:=U a2;clear b8 b9 c0 c1 c2 c3 c4 d7 a2;have lD:∀(j:Mar.ac) (b:Nat) (k:Zw),Mar.c9 (c.data.toList.drop p) p=.error j->h.heap.size<=b->Below h.heap.size h k->k.heap[b]?=some (.cells #[Y j.no,Y j.y] 179)->
    ap [S] w k/\((∃g p,qJ c.data.toList i=.ok (g,p)/\p<=c.size/\Ending.panicked [{ v:=.iface 143 (Zp b),recovered:=false }]=.returned (dH g)/\jo S c p o e n a f k)\/
     (∃j,qJ c.data.toList i=.error j/\eH w j.no j.y (.panicked [{ v:=.iface 143 (Zp b),recovered:=false }]) k)):=by
   intro j b k d9 d3 r d4;refine⟨z.i.u (ef _ r),Ya ⟨j,?_,b,Yz (Nat.le_of_lt C) d3,rfl,d4⟩⟩;unfold qJ;rw[O.i,N.i,d9]
  have H:=U lD;have I:=U B;clear B lD;go_wp21;go_cut [3] (λe9 b4=>∃b g,e9=Zp b/\h.heap.size<=b/\Mar.c9 (c.data.toList.drop p) p=.ok g/\
   Below h.heap.size h b4/\b4.heap[b]?=some (.cells #[Y g.w,Zs g.text,Y g.n,Y g.y] 154))
  case first=>
   go_region_held2 (λd=>d.cell? (Zd S 0)=some (.string c)/\d.cell? (Zd S 1)=some (Y p)) (go_keep)
    (first|(go_at_call 183;refine(I.i _ ?_).mono ?_;(first|exact J.i|exact K.i _);rintro s k ⟨e1,m⟩;rcases e1.cases with⟨g,l,rfl⟩|⟨j,l,b,P,rfl,d5⟩;rotate_left;exact bM (H.i j b k l (by first|exact P|(have:=P;simp at this;omega)) (by first|exact((Below.refl h.heap.size h).drew).trans m|exact(((Below.refl h.heap.size h).alloc (Y4 _) _).drew).trans (m.mono Zq)) d5);have Hx:=U l;clear l;obtain⟨g0,g4⟩:=xb m;have F:=m.size;simp at F;have h4:=(m.cell (p:=⟨S,0,none⟩) Zx);have h5:=(m.cell (p:=⟨S,1,none⟩) Zx)))
   all_goals (go_wp21)
   all_goals go_meet
   .exact⟨k.heap.size,g,rfl,F,Hx.i,(((Below.refl h.heap.size h).drew).trans m).alloc F _,be rfl⟩
   .refine⟨h.heap.size,g,rfl,Y4 _,Hx.i,?_,?_⟩
    .exact((((((((Below.refl h.heap.size h).alloc (Y4 _) _).drew).trans (m.mono Zq)).setCell (Y4 _) _).setCell (Y4 _) _).setCell (Y4 _) _).setCell (Y4 _) _)
    .exact GY ((m.block h.heap.size Zq).trans (be rfl))
  case rest=>
   rename Zw=>f0;obtain⟨b,g,rfl,f5,l,r,A⟩:=hcut;obtain⟨h6,h7,h8,h9,g3⟩:=tC A;have a3:=z.i.u (ef [S] r);have E:jo S c p o e n a f f0:=(r.block S e3).trans a9;have D:=(r.block w.heap.size C).trans a7;obtain⟨c5,c6,c7,c8,c9,d0,d1,g9,g1⟩:=E.a2;obtain⟨b0,b1,b2,b3,d8⟩:=tC D;have e2:p+g.text.length<=c.size:=by
    have:=Fg l;simp only[YI]at this;have:=Lib.size_eq c;omega
   have g7:(p:Int)+g.text.length<=c.size:=Zm;have f3:=U l;have f1:=U A;have f2:=U D;have b5:=U E;have b6:=U a3;have f6:¬b=S:=Zm;have f7:¬S=b:=Zm;have h3:¬w.heap.size=S:=Zm;have e6:¬S=w.heap.size:=Zm;have f8:¬b=w.heap.size:=Zm;have f9:¬w.heap.size=b:=Zm;clear l A D E a3 r I H J K z L M;go_wp2;go_region;go_wp2;have d6:qJ c.data.toList i=.ok (g,p+g.text.length):=by
    grind [qJ,af.i]
   refine bodyPost_ret (v:=dH g) (by simp[results,results117,go_sem,b0,b1,b2,b3,C]) rfl ⟨?_,Y8 ⟨g,_,d6,e2,rfl,?_⟩⟩
   .exact(((((b6.i.a6 Zq _).c0 (Y4 _) _).c0 (Y4 _) _).c0 (Y4 _) _).c0 (Y4 _) _).ag
   .have d2:=ci (i:=1) b5.i (Y ((p+g.text.length:Nat):Int));have t:∀(y:Zw) (x:Nat) (v:Zv),y.heap[S]?=some (.cells #[.string c,Y ((p+g.text.length:Nat):Int),o,e,n,a,f] 222)->
      (y.setCell ⟨w.heap.size,x,none⟩ v).heap[S]?=some (.cells #[.string c,Y ((p+g.text.length:Nat):Int),o,e,n,a,f] 222):=
     λy x v e5=>(Below.heap_setCell y ⟨w.heap.size,x,none⟩ v S e6).trans e5
    rw[<-Int.natCast_add];exact t _ 3 _ (t _ 2 _ (t _ 1 _ (t _ 0 _ d2)))
end
def Sc(S:Nat)(c:Za)(b:Nat)(h:Option Mar.aU)(d:Zw):Prop:=
 b<=c.size/\match h with
 |some a=>jo S c b (.int .i64 a.w) (.string ⟨a.text.toArray⟩) (.int .i64 a.n) (.int .i64 a.y) (.bool true) d
 |none=>∃f i g e,jo S c b f i g e (.bool false) d
def Sc.az{S e c b w f}(a:Sc S e c b w)(d:Below w.heap.size w f):Sc S e c b f:=by
 obtain⟨h,a⟩:=a;refine⟨h,?_⟩;cases b with
 |some l=>exact(d.block S (jo.a2 (w:=w) a).2.2.2.2.2.2.2.1).trans a
 |none=>
  obtain⟨i,k,j,g,a⟩:=a;exact⟨i,k,j,g,(d.block S a.a2.2.2.2.2.2.2.2.1).trans a⟩
def fD(b:Zb)(a:Nat):Option Mar.aU->Except Mar.ac (Mar.aU×Nat)
 |some c=>.ok (c,a)
 |none=>qJ b a
theorem Xr{S:Nat}{a b:Zw}{d}(c:ap [S] (a.alloc d) b)(i j k l m e f g h:Zv):ap [S] a (((((((((b.setCell ⟨S,2,none⟩ i).setCell ⟨S,3,none⟩ j).setCell ⟨S,4,none⟩ k).setCell ⟨S,5,none⟩ l).setCell ⟨S,6,none⟩ m).setCell ⟨a.heap.size,0,none⟩ e).setCell ⟨a.heap.size,1,none⟩ f).setCell ⟨a.heap.size,2,none⟩ g).setCell ⟨a.heap.size,3,none⟩ h):=
 ((((((((((((ar ..).A _).u c).a6 Zq _).a6 Zq _).a6 Zq _).a6 Zq _).a6 Zq _).c0 (Y4 _) _).c0 (Y4 _) _).c0 (Y4 _) _).c0 (Y4 _) _)
theorem sc9{S b:Nat}{l k y E z n u m}(w:¬S=b)(o:jo S l k y E z n u m){f g h i j}(A B C D:Zv):jo S l k f g h i j (((((((((m.setCell ⟨S,2,none⟩ f).setCell ⟨S,3,none⟩ g).setCell ⟨S,4,none⟩ h).setCell ⟨S,5,none⟩ i).setCell ⟨S,6,none⟩ j).setCell ⟨b,0,none⟩ A).setCell ⟨b,1,none⟩ B).setCell ⟨b,2,none⟩ C).setCell ⟨b,3,none⟩ D):=by
 have p:=ci (i:=2) o f;have q:=ci (i:=3) p g;have r:=ci (i:=4) q h;have s:=ci (i:=5) r i;have t:=ci (i:=6) s j;have c:∀(d:Zw) (a:Nat) (v:Zv) (e:Option Obj),d.heap[S]?=e->(d.setCell ⟨b,a,none⟩ v).heap[S]?=e:=
  λd a v e x=>(Below.heap_setCell d ⟨b,a,none⟩ v S w).trans x
 exact c _ 3 _ _ (c _ 2 _ _ (c _ 1 _ _ (c _ 0 _ _ t)))
def IC(S:Nat)(d:Za)(e:Nat)(j:Option Mar.aU)(a:Zw)(c:Sc S d e j a)(J:Gl a)(N:d.size<=4000000000):Calls prog 72 #[Zp S] a λl p=>ap [S] a p /\
   ((∃b k,fD d.data.toList e j=.ok (b,k)/\l=.returned (dH b)/\Sc S d k (some b) p)\/
    (∃f,fD d.data.toList e j=.error f/\eH a f.no f.y l p)):=by
 obtain⟨q,c⟩:=c;cases j with
 |some b=>
  have r:jo S d e (Y b.w) (Zs b.text) (Y b.n) (Y b.y) (.bool true) a:=c;obtain⟨z,A,B,C,D,E,F,m,I⟩:=r.a2;have w:=U r;go_in;go_wp2;refine bodyPost_ret (v:=dH b) (by simp[results,results72,go_sem]) rfl ⟨?_,Y8 ⟨b,e,rfl,rfl,q,?_⟩⟩
  .exact(ar ..).A _
  .exact(Below.heap_alloc a _ S m).trans w.i
 |none=>
  obtain⟨O,a3,P,x,c⟩:=c;obtain⟨z,A,B,C,D,E,F,m,I⟩:=c.a2;have s:=λg=>(Below.refl a.heap.size a).alloc (Y4 _) g;have t:=λg=>aeh S d e O a3 P x (.bool false) (a.alloc g) ((Below.heap_alloc a g S m).trans c) (J.az (s g)) q N;have u:=U t;go_in;go_wp2_with (go_at_call 117;refine(u.i _).mono ?_;rintro l b7 ⟨h,⟨b,k,i,M,rfl,o⟩|⟨f,i,y,G,rfl,H⟩⟩;obtain⟨a7,a8,a9,b0,b1,b2,b3,b6,b4⟩:=o.a2;have n:=(h.ak a.heap.size Zq Zg).trans (be rfl);obtain⟨R,a0,a1,a2,b5⟩:=tC n;have a6:=U n;have a4:=U o;have a5:=U h;have Hx:=U i;clear n o h i)
  .have K:¬S=a.heap.size:=Zm;have L:¬a.heap.size=S:=Zm;refine bodyPost_ret (v:=dH b) (by simp[results,results72,go_sem,K,L,R,a0,a1,a2]) rfl ⟨?_,Y8 ⟨b,k,Hx.i,rfl,M,?_⟩⟩
   .grind [Xr,af.i]
   grind [sc9,af.i]
  .refine bM ⟨((ar ..).A _).u h,Ya ⟨f,i,y,?_,rfl,H⟩⟩;simp at G;omega
def Rz(S:Nat)(c:Za)(h:Nat)(f:Option Mar.aU)(w:Zw)(t:Sc S c h f w)(F:Gl w)(J:c.size<=4000000000):Calls prog 118 #[Zp S] w λo r=>ap [S] w r /\
   ((∃a g,fD c.data.toList h f=.ok (a,g)/\o=.returned (dH a)/\Sc S c g none r)\/
    (∃d,fD c.data.toList h f=.error d/\eH w d.no d.y o r)):=by
 have a9:S<w.heap.size:=by
  obtain⟨_,j⟩:=t;cases f with
  |some a=>exact(jo.a2 (w:=w) j).2.2.2.2.2.2.2.1
  |none=>obtain⟨b4,b6,b5,R,j⟩:=j;exact j.a2.2.2.2.2.2.2.2.1
 have H:¬S=w.heap.size:=Zm;have b3:¬w.heap.size=S:=Zm;have x:=λb=>IC S c h f (w.alloc b) (Sc.az t ((Below.refl w.heap.size w).alloc (Y4 _) b)) (F.az ((Below.refl w.heap.size w).alloc (Y4 _) b)) J;have y:=U x;go_in;go_wp2_with (go_at_call 72;refine(y.i _).mono ?_;rintro o n ⟨e,⟨a,g,k,rfl,I,s⟩|⟨d,k,B,D,rfl,E⟩⟩;have q:jo S c g (Y a.w) (Zs a.text) (Y a.n) (Y a.y) (.bool true) n:=s;obtain⟨a0,a1,a2,a3,a4,a5,a6,b2,a7⟩:=q.a2;have p:=(e.ak w.heap.size Zq Zu).trans (be rfl);obtain⟨L,M,N,O,a8⟩:=tC p;have u:=e.aG;simp at u;have G:w.heap.size<n.heap.size:=u;have b0:¬w.heap.size=n.heap.size:=Zm;have b1:¬S=n.heap.size:=Zm;have P:=U p;have z:=U q;have A:=U e;have Hx:=U k;clear p s q e k)
 .refine bodyPost_ret (v:=dH a) (by simp[results,results118,go_sem,G,L,M,N,O]) rfl ⟨?_,Y8 ⟨a,g,Hx.i,rfl,I,?_⟩⟩
  .exact((((((((ar ..).A _).u A.i).a6 Zq _).c0 (Y4 _) _).c0 (Y4 _) _).c0 (Y4 _) _).c0 (Y4 _) _).A _
  .refine⟨Y a.w,Zs a.text,Y a.n,Y a.y,(Below.heap_alloc _ _ S Zu).trans ?_⟩;have C:=ci (i:=6) z.i (.bool false);have i:∀(m:Zw) (l:Nat) (v:Zv) (b:Option Obj),m.heap[S]?=b->(m.setCell ⟨w.heap.size,l,none⟩ v).heap[S]?=b:=
    λm l v b K=>(Below.heap_setCell m ⟨w.heap.size,l,none⟩ v S H).trans K
   exact i _ 3 _ _ (i _ 2 _ _ (i _ 1 _ _ (i _ 0 _ _ C)))
 .refine bM ⟨((ar ..).A _).u e,Ya ⟨d,k,B,?_,rfl,E⟩⟩;simp at D;omega
section
variable {e X X':List Nat}{a b:Nat}{bs:Zo}{w c:Zw}
inductive Ty where
 |plain (k:Nat)
 |named (t:Zb) (at':Nat)
 |opaq (n:Int) (fixed:Bool)
 |str (n:Int) (fixed:Bool)
 |arr (of:Ty) (n:Int) (fixed:Bool)
 |opt (of:Ty)
 |void
def fY:Ty->Zv
 |.plain e=>.iface 372 (.agg #[.int .i64 e])
 |.named f d=>.iface 260 (.agg #[.string ⟨f.toArray⟩,.int .i64 d])
 |.opaq b a=>.iface 377 (.agg #[.int .i64 b,.bool a])
 |.str b a=>.iface 380 (.agg #[.int .i64 b,.bool a])
 |.arr c b a=>.iface 382 (.agg #[fY c,.int .i64 b,.bool a])
 |.opt c=>.iface 385 (.agg #[fY c])
 |.void=>.iface 444 (.agg #[])
structure aV where
 t:Zb
 y:Nat
 H:Ty
structure gM where
 t:Zb
 y:Nat
 cv:Ty
 c1:Ty
 num:Int
structure go where
 t:Zb
 y:Nat
 ao:List gM
 num:Int
inductive aD where
 |const (t:Zb) (at':Nat) (v:Int)
 |typedef (d:aV)
 |enum (t:Zb) (at':Nat) (ms:List (Zb×Nat×Int))
 |struct (t:Zb) (at':Nat) (ms:List aV)
 |union (t:Zb) (at':Nat) (sel:aV) (arms:List (List Int×aV))
 |prog (t:Zb) (at':Nat) (vs:List go) (num:Int)
def dF(X:List Nat)(bs:Zo)(w:Zw):Prop:=∀a∈bs,w.heap[a.1]?=some a.2/\a.1 ∉ X
abbrev qx(b:Zb)(a:Nat):Zl:=[Zs b,Y a]
abbrev oA(a:aV):Zl:=[Zs a.t,Y a.y,fY a.H]
def fk(bs:Zo)(f:TypeId)(v:Zv)(a:Nat)(b:Zl):Prop:=
 (v=.slice none 0 0/\a=0/\b=[])\/∃e c d,v=.slice (some ⟨e,0,none⟩) a c/\(a<=c/\a<=1000)/\(e,Obj.cells d f)∈bs/\d.toList.take b.length=b
theorem fk.aZ{b:Zo}{c v d e}(m:∀n∈bs,n∈b)(a:fk bs c v d e):fk b c v d e:=by
 rcases a with a|⟨h,f,g,i,j,k,l⟩
 .exact Y8 a
 .exact Ya ⟨h,f,g,i,j,m _ k,l⟩
def Ay(bs:Zo)(b:Nat)(a:Zb×Nat×Int):Prop:=(b,Obj.cells #[.string ⟨a.1.toArray⟩,Y a.2.1,Y a.2.2] 343)∈bs
def gH(bs:Zo)(b:Nat):aD->Prop
 |.const f d v=>Ay bs b (f,d,v)
 |.typedef o=>(b,Obj.cells (oA o).toArray 244)∈bs
 |.enum f d g=>∃(c:Zv) (l:List Nat),(b,Obj.cells (qx f d++[c]).toArray 253)∈bs/\l.length=g.length/\
   fk bs 223 c g.length (l.map λi=>Zp i)/\∀a (m:a<g.length) (n:a<l.length),Ay bs l[a] g[a]
 |.struct f d g=>∃(c:Zv),(b,Obj.cells (qx f d++[c]).toArray 353)∈bs/\fk bs 242 c g.length (g.flatMap oA)
 |.union f d r j=>∃(c:Zv) (e:Zl),(b,Obj.cells (qx f d++oA r++[c]).toArray 358)∈bs/\e.length=j.length/\
   fk bs 363 c j.length ((j.zip e).flatMap λh=>h.2::oA h.1.2)/\
   ∀a (m:a<j.length) (n:a<e.length),fk bs 2 e[a] j[a].1.length (j[a].1.map λp=>Y p)
 |.prog f d k q=>∃(c:Zv) (e:Zl),(b,Obj.cells (qx f d++[c,.int .i64 q]).toArray 267)∈bs/\e.length=k.length/\
   fk bs 367 c k.length ((k.zip e).flatMap λh=>qx h.1.t h.1.y++[h.2,Y h.1.num])/\
   ∀a (m:a<k.length) (n:a<e.length),fk bs 446 e[a] k[a].ao.length (k[a].ao.flatMap λi=>qx i.t i.y++[fY i.cv,fY i.c1,Y i.num])
def fC:aD->TypeId
 |.const ..=>223
 |.typedef ..=>225
 |.enum ..=>227
 |.struct ..=>229
 |.union ..=>231
 |.prog ..=>233
def og(bs:Zo)(v:Zv):Option aD->Prop
 |none=>v=.nilIface
 |some a=>∃b,v=.iface (fC a) (.pointer (some ⟨b,0,none⟩))/\gH bs b a
def uA(a:List (Zb×Zv)):Obj:=.map (a.mapIdx λc b=>⟨.string ⟨b.1.toArray⟩,b.2,c⟩).toArray a.length
def lG(a:List (Int×Int)):Obj:=.map (a.mapIdx λc b=>⟨Y b.1,Y b.2,c⟩).toArray a.length
def iA(X:List Nat)(a:Nat)(b:List (Zb×Option aD))(w:Zw):Prop:=
 (b.map (·.1)).Nodup/\∃(bs:Zo) (d:Zl),dF X bs w/\d.length=b.length/\w.heap[a]?=some (uA (b.zip d |>.map λe=>(e.1.1,e.2)))/\∀c (f:c<b.length) (g:c<d.length),og bs d[c] b[c].2
def ay{a}(c:w.heap[b]?=some a):b<w.heap.size:=by
 grind
def dF.ae(d:dF X bs w)(g:ap e w c)(f:∀j∈e,j∈X):dF X bs c:=by
 intro k i;obtain⟨a,b⟩:=d k i;exact⟨(g.ak _ (ay a) (λh=>b (f _ h))).trans a,b⟩
theorem dF.cP(a:dF X bs w)(g:w.heap.size<=b):dF (b::X) bs w:=by
 intro d c;obtain⟨e,f⟩:=a d c;grind
def dF.ca(a:dF X bs w)(d:∀f∈X',f∈X):dF X' bs w:=
 λc b=>⟨(a c b).1,λe=>(a c b).2 (d _ e)⟩
def iA.ae{f}(g:iA X a f w)(d:ap e w c)(k:∀m∈e,m∈X)(l:a ∉ e):iA X a f c:=by
 obtain⟨n,bs,o,h,i,b,j⟩:=g;exact⟨n,bs,o,h.ae d k,i,(d.ak _ (ay b) l).trans b,j⟩
def iA.az{b}(d:iA X a b w)(e:Below w.heap.size w c):iA X a b c:=
 d.ae (ef [] e) Zq Zq
theorem iA.cP{c}(d:iA X a c w)(g:w.heap.size<=b):iA (b::X) a c w:=by
 obtain⟨h,bs,i,e,f⟩:=d;exact⟨h,bs,i,e.cP g,f⟩
def iA.ca{b}(c:iA X a b w)(f:∀i∈X',i∈X):iA X' a b w:=by
 obtain⟨g,bs,h,d,e⟩:=c;exact⟨g,bs,h,d.ca f,e⟩
def iA.e8{f}(d:iA X a f w):∃c b,w.heap[a]?=some (.map c b):=by
 obtain⟨_,bs,g,_,_,e,_⟩:=d;exact⟨_,_,e⟩
end
section
variable {d:List Nat}{b:Nat}{f:Mar.ac}{nx:Option Mar.aU}{w c w1:Zw}{α e:Type}
structure Ad where
 R:Nat
 S:Nat
 N:Nat
 P:Nat
 X:List Nat
def Ad.cP(a:Ad)(b:Nat):Ad:={ a with X:=b::a.X }
structure St where
 y:Nat
 nx:Option Mar.aU
 an:Nat
 ax:Nat
 G:List (Zb×Option aD)
 ah:List (Int×Int)
structure Rd(A:Ad)(text:Za)(σ:St)(w:Zw):Prop where
 me:w.heap[A.R]?=some (.cells #[Zp A.S,.map (some A.N),Y σ.an,Y σ.ax,.map (some A.P)] 151)
 sc:Sc A.S text σ.y σ.nx w
 nm:iA A.X A.N σ.G w
 cD:A.R∈A.X/\A.S∈A.X/\A.N∈A.X/\A.P∈A.X
 bn:∀x∈A.X,x<w.heap.size
 pr:w.heap[A.P]?=some (lG σ.ah)
 np:A.N≠A.P
 gl:Gl w
 de:text.size<=4000000000
 bm:σ.an<=1000000/\σ.ax<=1000000
def Sc.at{S c a}(b:Sc S c a nx w):∃f h g d e,jo S c a f h g d e w:=by
 obtain⟨_,b⟩:=b;grind
def Rd.cc{a e f}(b:Rd a e f w):a.R≠a.S/\a.R≠a.N/\a.R≠a.P/\a.S≠a.N/\a.S≠a.P/\a.N≠a.P:=by
 obtain⟨n,p,o,g,j,d⟩:=b.sc.at;have m:w.heap[a.S]?=_:=d;have k:=b.me;obtain⟨i,h,l⟩:=b.nm.e8;have c:=b.pr;unfold lG at c;refine⟨?_,?_,?_,?_,?_,b.np⟩
 .grind
 all_goals grind
theorem Rd.lt{a e f}(b:Rd a e f w):a.R<w.heap.size/\a.S<w.heap.size/\a.N<w.heap.size/\a.P<w.heap.size:=by
 obtain⟨k,m,l,g,j,d⟩:=b.sc.at;obtain⟨i,h,c⟩:=b.nm.e8;exact⟨ay b.me,ay d,ay c,ay b.pr⟩
def Rd.K{a e b}(c:Rd a e b w):w.cell? (Zd a.R 0)=some (Zp a.S)/\w.cell? (Zd a.R 1)=some (.map (some a.N))/\w.cell? (Zd a.R 2)=some (Y b.an)/\
  w.cell? (Zd a.R 3)=some (Y b.ax)/\w.cell? (Zd a.R 4)=some (.map (some a.P))/\∀d,w.frozen? ⟨a.R,d,none⟩=false:=by
 have f:=c.me;simp_all[World.cell?,World.frozen?]
def Rd.az{d e f}(a:Rd d e f w)(b:Below w.heap.size w c):Rd d e f c:=by
 obtain⟨h,k,l,i⟩:=a.lt;exact⟨(b.block _ h).trans a.me,a.sc.az b,a.nm.az b,a.cD,λj g=>Yr (a.bn j g) b.size,(b.block _ i).trans a.pr,a.np,a.gl.az b,a.de,a.bm⟩
def Rd.kz{d e g}(a:Rd d e g w)(b:ap [d.S] w c){f}(h:Sc d.S e f nx c):Rd d e { g with y:=f,nx:=nx } c:=by
 obtain⟨k,t,u,l⟩:=a.lt;obtain⟨x,y,z,A,B,C⟩:=a.cc;obtain⟨s,D,v,n,r,i⟩:=a.sc.at;obtain⟨o,p,q⟩:=i.gn a.gl;exact⟨(b.ak _ k Zg).trans a.me,h,a.nm.ae b (by simp;exact a.cD.2.1) Zg,a.cD,λm j=>Yr (a.bn m j) b.aG,(b.ak _ l Zg).trans a.pr,a.np,
  a.gl.ae b Zg Zg Zg,a.de,a.bm⟩
def Rd.ae{b j g}(a:Rd b j g w)(e:ap d w c)(t:∀B∈d,B∈b.X)(p:b.R ∉ d)(q:b.S ∉ d)(r:b.N ∉ d)(s:b.P ∉ d)
  (m:2 ∉ d) (n:3 ∉ d) (o:4 ∉ d):Rd b j g c:=by
 obtain⟨y,z,E,A⟩:=a.lt;refine⟨(e.ak _ y p).trans a.me,?_,a.nm.ae e t r,a.cD,λk v=>Yr (a.bn k v) e.aG,(e.ak _ A s).trans a.pr,a.np,a.gl.ae e m n o,a.de,a.bm⟩;obtain⟨u,f⟩:=a.sc;refine⟨u,?_⟩;have h:=e.ak _ z q;cases i:g.nx with
 |some k=>rw[i]at f;exact h.trans f
 |none=>rw[i]at f;obtain⟨x,D,C,l,f⟩:=f;exact⟨x,D,C,l,h.trans f⟩
def IK{a A':Ad}{b j g}(c:Rd a b j w)(i:A'.R=a.R/\A'.S=a.S/\A'.N=a.N/\A'.P=a.P)(h:Rd A' b g w1){p:Addr}(q:w.heap.size<=p.block)(o:p.block∈A'.X)(v:Zv):Rd A' b g (w1.setCell p v):=by
 obtain⟨r,s,t,u⟩:=c.lt;obtain⟨⟨x,d⟩,⟨_,_,e⟩,⟨_,_,f⟩⟩:=c.gl;have d:=iI d;have e:=iI e;have f:=iI f;obtain⟨k,l,m,n⟩:=i;refine h.ae ((ar [p.block] w1).a6 Zq v) Zu ?_ ?_ ?_ ?_ ?_ ?_ ?_<;>simp<;>omega
def Rd.gV{e f g}(b:Rd e f g w)(d:Obj):Rd (e.cP w.heap.size) f g (w.alloc d):=by
 have a:=b.az ((Below.refl w.heap.size w).alloc (Y4 _) d);refine⟨a.me,a.sc,(b.nm.cP (Y4 _)).az ((Below.refl w.heap.size w).alloc (Y4 _) d),?_,?_,a.pr,a.np,a.gl,a.de,a.bm⟩
 .obtain⟨h,i,j,k⟩:=b.cD;exact⟨Y5 _ h,Y5 _ i,Y5 _ j,Y5 _ k⟩
 .intro l c;simp only[Ad.cP,Yg]at c;rcases c with rfl|c
  .simp
  .have:=b.bn l c;simp;omega
def IJ{a:Ad}{e g}(h:a.R∈a.X/\a.S∈a.X/\a.N∈a.X/\a.P∈a.X)(c:Rd (a.cP b) e g w):Rd a e g w:=
 ⟨c.me,c.sc,c.nm.ca (λf d=>Y5 _ d),h,λf d=>c.bn f (Y5 _ d),c.pr,c.np,c.gl,c.de,c.bm⟩
abbrev PM(α:Type):=St->Except Mar.ac (α×St)
def fH(d:List Nat)(h:Ad)(j:Za)(w:Zw)(e:Except Mar.ac (α×St))(i:α->Zv)(b:Ending)(c:Zw):Prop:=
 ap d w c/\((∃a g,e=.ok (a,g)/\b=.returned (i a)/\Rd h j g c)\/(∃f,e=.error f/\eH w f.no f.y b c))
def ht(d:Za):PM Mar.aU:=λa=>
 match fD d.data.toList a.y a.nx with
 |.ok (b,c)=>.ok (b,{ a with y:=c,nx:=some b })
 |.error f=>.error f
def next(c:Za):PM Mar.aU:=λa=>
 match fD c.data.toList a.y a.nx with
 |.ok (d,b)=>.ok (d,{ a with y:=b,nx:=none })
 |.error f=>.error f
def Cy{a d e}(b:Rd a d e w):Calls prog 72 #[Zp a.S] w (fH [a.S] a d w (ht d e) dH):=by
 refine(IC a.S d e.y e.nx w b.sc b.gl b.de).mono ?_;rintro l c ⟨g,⟨k,m,h,rfl,i⟩|⟨f,h,j⟩⟩
 .exact⟨g,Y8 ⟨k,_,by simp only[ht,h],rfl,b.kz g i⟩⟩
 .exact⟨g,Ya ⟨f,by simp only[ht,h],j⟩⟩
def wl{a d e}(b:Rd a d e w):Calls prog 118 #[Zp a.S] w (fH [a.S] a d w (next d e) dH):=by
 refine(Rz a.S d e.y e.nx w b.sc b.gl b.de).mono ?_;rintro l c ⟨g,⟨k,m,h,rfl,i⟩|⟨f,h,j⟩⟩
 .exact⟨g,Y8 ⟨k,_,by simp only[next,h],rfl,b.kz g i⟩⟩
 .exact⟨g,Ya ⟨f,by simp only[next,h],j⟩⟩
def jD(b:Za)(a:Zb):PM Bool:=λd=>
 match ht b d with
 |.ok (c,e)=>.ok (c.text==a,e)
 |.error f=>.error f
def VG(a b c d:Zv)(w:Zw):(Instr.field 154 (.agg #[a,b,c,d]) 0).run prog w=.ok a w:=Zk
def VH(a b c d:Zv)(w:Zw):(Instr.field 154 (.agg #[a,b,c,d]) 1).run prog w=.ok b w:=Zk
def Lm(c b d a:Zv)(w:Zw):(Instr.field 154 (.agg #[c,b,d,a]) 3).run prog w=.ok a w:=Zk
def zV{a d i}(h:Za)(e:Rd a d i w):Calls prog 198 #[Zp a.R,.string h] w (fH [a.S] a d w (jD d h.data.toList i) .bool):=by
 rw[<-ByteArray.toList_eq];obtain⟨o,p,q,r,s,u⟩:=e.K;have v:=VH;have j:=U (Cy e);go_in;go_wp2_with (go_at_call 72;refine j.i.mono ?_;rintro t w1 ⟨g,⟨x,n,c,rfl,m⟩|⟨f,c,b,k,rfl,l⟩⟩<;>(try dsimp only[dH]))
 .go_ret;exact⟨g,Y8 ⟨_,n,by simp only[jD,c],rfl,m⟩⟩
 .exact bM ⟨g,Ya ⟨f,by simp only[jD,c],b,k,rfl,l⟩⟩
def aN(c:PM α)(b:α->PM e):PM e:=λd=>
 match c d with
 |.ok (a,g)=>b a g
 |.error f=>.error f
def ret(a:α):PM α:=λb=>.ok (a,b)
def hZ(b a:Nat):PM α:=λ_=>.error ⟨b,a⟩
theorem bK{m:PM α}{b:α->PM e}{c d:St}{a:α}(f:m c=.ok (a,d)):aN m b c=b a d:=by simp only[aN,f]
theorem dv{m:PM α}{c:α->PM e}{a:St}(b:m a=.error f):aN m c a=.error f:=by simp only[aN,b]
def el(a:Za)(b:Zb):PM Bool:=aN (jD a b) λc=>if c then aN (next a) λ_=>ret true else ret false
theorem hM{e h}{g:Except Mar.ac (α×St)}{f:α->Zv}{a:α}{b:St}{v:Zv}
  (j:ap d w c) (k:g=.ok (a,b)) (l:v=f a) (i:Rd e h b c):fH d e h w g f (.returned v) c:=⟨j,Y8 ⟨a,b,k,by rw[l],i⟩⟩
def gJ{M' e m}{a:Except Mar.ac (α×St)}{g}
  (j:ap d w c) (k:ap M' w w1) (l:a=.error f) (h:w1.heap.size<=b) (i:c.heap[b]?=some (.cells #[Y f.no,Y f.y] 179)) :
  fH d e m w a g (.panicked [{ v:=.iface 143 (Zp b),recovered:=false }]) c:=
 ⟨j,Ya ⟨f,l,b,Yz k.aG h,rfl,i⟩⟩
def pq{e l o}(k:Za)(r:Rd e l o w):Calls prog 192 #[Zp e.R,.string k] w (fH [e.S] e l w (el l k.data.toList o) .bool):=by
 have p:=U (zV k r);go_in;go_wp2_with (first
  |(go_at_call 198;refine p.i.mono ?_;rintro q w1 ⟨a,⟨m,C,c,rfl,i⟩|⟨f,c,b,g,rfl,h⟩⟩;obtain⟨t,u,v,x,y,z⟩:=i.K)
  |(go_at_call 118;refine(wl i).mono ?_;rintro q A ⟨n,⟨B,D,j,rfl,s⟩|⟨f,j,b,g,rfl,h⟩⟩))
 .have d:m=false:=Zu;subst d;go_ret;exact hM a (bK c) rfl i
 .have d:m=true:=Zu;subst d;go_ret;exact hM (a.u n) ((bK c).trans (bK j)) rfl s
 .have d:m=true:=Zu;subst d;exact bM (gJ (a.u n) a ((bK c).trans (dv j)) g h)
 .exact bM (gJ a (ar [] _) (dv c) g h)
def cu(c:Za)(b:Zb):PM Mar.aU:=aN (next c) λa=>if a.text==b then ret a else hZ 3 a.y
def hq{d g q}(m:Za)(e:Rd d g q w):Calls prog 187 #[Zp d.R,.string m] w (fH [d.S] d g w (cu g m.data.toList q) dH):=by
 rw[<-ByteArray.toList_eq];obtain⟨L,M,N,O,P,a0⟩:=e.K;have a2:=e.lt.1;have a4:=e.lt.2.1;have u:af (∀l,Calls prog 118 #[Zp d.S] (w.alloc l) (fH [d.S] (d.cP w.heap.size) g (w.alloc l) (next g q) dH)):=λl=>wl (e.gV l);have K:=U e.cc;go_in;go_wp2_with (first
  |(go_at_call 118;refine(u.i _).mono ?_;rintro y w1 ⟨h,⟨i,J,k,rfl,r⟩|⟨f,k,b,z,rfl,A⟩⟩<;>(try dsimp only[dH]);have s:=(h.ak w.heap.size Zq Zg).trans (be rfl);obtain⟨E,F,G,H,a1⟩:=tC s;have t:=h.aG;simp at t;have B:w.heap.size<w1.heap.size:=t;have a3:¬w.heap.size=w1.heap.size:=Zm;have n:=U h;have Hx:=U k;have x:=U r;clear s h k r)
  |(go_at_call 70;refine(fp _ _ _).mono ?_;rintro y c ⟨rfl,rfl⟩))
 .have o:(i.text==m.toList)=false:=Zu;refine bM (gJ (M':=[d.S]) (w1:=w1) (f:=⟨3,i.y⟩) ((((ar ..).A _).u n.i).A _ |>.A _) (((ar ..).A _).u n.i) ((bK Hx.i).trans ?_) Zm (be Zq));rw[o];rfl
 .have o:(i.text==m.toList)=true:=Zu;refine bodyPost_ret (v:=dH i) (by simp[results,results187,go_sem,B,E,F,G,H]) rfl (hM (a:=i) ?_ ((bK Hx.i).trans (by rw[o];rfl)) rfl ?_)
  .exact((((((((ar ..).A _).u n.i)).c0 (Y4 _) _).c0 (Y4 _) _).c0 (Y4 _) _).c0 (Y4 _) _).A _
  .have j:=λ{I:Zw} (C:Rd (d.cP w.heap.size) g J I) (D:Nat) (v:Zv)=>IK (A':=d.cP w.heap.size) e ⟨rfl,rfl,rfl,rfl⟩ C (p:=⟨w.heap.size,D,none⟩) (Y4 _) (by simp[Ad.cP]) v;exact IJ e.cD ((j (j (j (j x.i 0 _) 1 _) 2 _) 3 _).az ((Below.refl ..).alloc (Y4 _) _))
 .exact bM (gJ (((ar ..).A _).u h) ((ar [d.S] _).A _) (dv k) z A)
end
def lQ(b:Za)(a:Mar.aU):PM Ty:=
 if((a.w:Int)==1)then ret (.named a.text a.y)
 else if a.text==Jk then ret (.plain 0)
 else if a.text==Jq then ret (.plain 2)
 else if a.text==Js then ret (.plain 4)
 else if a.text==Jb then
  aN (el b Jq) λc=>if c then ret (.plain 3)else aN (el b Jk) λ_=>ret (.plain 1)
 else hZ 3 a.y
def sa(a:Za):PM Ty:=aN (next a) (lQ a)
def tw1{b}{a:Mar.aU}(c:((a.w:Int)==1)=true):lQ b a=ret (.named a.text a.y):=by simp_all[lQ]
def tw2{b}{a:Mar.aU}(c:((a.w:Int)==1)=false)(d:(a.text==Jk)=true):lQ b a=ret (.plain 0):=by simp_all[lQ]
def tw3{b}{a:Mar.aU}(c:((a.w:Int)==1)=false)(d:(a.text==Jk)=false)(e:(a.text==Jq)=true):lQ b a=ret (.plain 2):=by simp_all[lQ]
def tw4{b}{a:Mar.aU}(c:((a.w:Int)==1)=false)(d:(a.text==Jk)=false)(e:(a.text==Jq)=false)(f:(a.text==Js)=true):lQ b a=ret (.plain 4):=by simp_all[lQ]
theorem Dl{b}{a:Mar.aU}(d:((a.w:Int)==1)=false)(e:(a.text==Jk)=false)(f:(a.text==Jq)=false)(g:(a.text==Js)=false)(h:(a.text==Jb)=true):lQ b a=aN (el b Jq) λc=>if c then ret (.plain 3)else aN (el b Jk) λ_=>ret (.plain 1):=by simp_all[lQ]
def tw6{b}{a:Mar.aU}(c:((a.w:Int)==1)=false)(d:(a.text==Jk)=false)(e:(a.text==Jq)=false)(f:(a.text==Js)=false)(g:(a.text==Jb)=false):lQ b a=hZ 3 a.y:=by simp_all[lQ]
def Hz(a:Mar.aU)(b:Zw):Calls prog 243 #[dH a] b λc d=>c=.returned (.agg #[Zs a.text,Y a.y])/\Below b.heap.size b d:=by
 dsimp only[dH];go_in;go_wp2;exact bodyPost_ret (v:=.agg #[Zs a.text,Y a.y]) (by simp[results,results243,go_sem]) rfl ⟨rfl,((Below.refl ..).alloc (Y4 _) _).alloc Zq _⟩
def Pz{b m y n}(q:Rd b m y n):Calls prog 249 #[Zp b.R] n (fH [b.S] b m n (sa m y) fY):=by
 obtain⟨B,C,D,E,F,G⟩:=q.K;have z:=U (wl q);go_in;go_wp2_with (first
  |(go_at_call 118;refine z.i.mono ?_;rintro h w ⟨k,⟨x,M,i,rfl,t⟩|⟨j,i,p,d,rfl,e⟩⟩<;>(try dsimp only[dH]);have a:=U k;have Hx:=U i;have c:=U t;clear k i t)
  |(go_at_call 243;refine(Hz x _).mono ?_;rintro h I ⟨rfl,r⟩)
  |(go_at_call 70;refine(fp _ _ _).mono ?_;rintro h H ⟨rfl,rfl⟩)
  |(go_at_call_of 192 (Value.string { data:=#[104,121,112,101,114] });refine(pq _ (c.i.az ((Below.refl ..).alloc (Y4 _) _))).mono ?_;rintro h J ⟨f,⟨o,N,l,rfl,u⟩|⟨j,l,p,d,rfl,e⟩⟩)
  |(go_at_call_of 192 (Value.string { data:=#[105,110,116] });refine(pq _ u).mono ?_;rintro h K ⟨s,⟨L,O,v,rfl,A⟩|⟨j,v,p,d,rfl,e⟩⟩))
 .go_ret;exact hM ((a.i.A _).u (ef _ r)) ((bK Hx.i).trans (by rw[tw1 ‹_›];rfl)) rfl ((c.i.az ((Below.refl ..).alloc (Y4 _) _)).az r)
 .go_ret;exact hM (a.i.A _) ((bK Hx.i).trans (by rw[tw2 ‹_› ‹_›];rfl)) rfl (c.i.az ((Below.refl ..).alloc (Y4 _) _))
 .go_ret;exact hM (a.i.A _) ((bK Hx.i).trans (by rw[tw3 ‹_› ‹_› ‹_›];rfl)) rfl (c.i.az ((Below.refl ..).alloc (Y4 _) _))
 .go_ret;exact hM (a.i.A _) ((bK Hx.i).trans (by rw[tw4 ‹_› ‹_› ‹_› ‹_›];rfl)) rfl (c.i.az ((Below.refl ..).alloc (Y4 _) _))
 .have g:o=true:=‹_›;subst g;go_ret;exact hM ((a.i.A _).u f) ((bK Hx.i).trans (by rw[Dl ‹_› ‹_› ‹_› ‹_› ‹_›];exact bK l)) rfl u
 .have g:o=false:=‹_›;subst g;go_ret;exact hM (((a.i.A _).u f).u s) ((bK Hx.i).trans (by rw[Dl ‹_› ‹_› ‹_› ‹_› ‹_›];exact(bK l).trans (bK v))) rfl A
 .have g:o=false:=‹_›;subst g;exact bM (gJ (((a.i.A _).u f).u s) ((a.i.A _).u f) ((bK Hx.i).trans (by rw[Dl ‹_› ‹_› ‹_› ‹_› ‹_›];grind [bK,dv])) d e)
 .exact bM (gJ ((a.i.A _).u f) (a.i.A _) ((bK Hx.i).trans (by simp_all[Dl,dv])) d e)
 .exact bM (gJ (M':=[b.S]) (w1:=w) (f:=⟨3,x.y⟩) ((a.i.A _).A _) a.i ((bK Hx.i).trans (by rw[tw6 ‹_› ‹_› ‹_› ‹_› ‹_›];rfl)) Zm (be Zq))
 .exact bM (gJ k (ar [] _) (dv i) d e)
section
variable {c:Ad}{d:Zw}{b:St}
def kD(a:Nat):PM Unit:=λb=>if 24<=b.an then .error ⟨5,a⟩else .ok ((),{ b with an:=b.an+1 })
def lF(a:Nat):PM Unit:=λb=>if 40<=b.ax then .error ⟨5,a⟩else .ok ((),{ b with ax:=b.ax+1 })
abbrev uS:Unit->Zv:=λ_=>.tuple #[]
def Rd.kc{e}(a:Rd c e b d):2≠c.R/\3≠c.R/\4≠c.R:=by
 obtain⟨f,_⟩:=a.K;obtain⟨⟨j,g⟩,⟨_,_,h⟩,⟨_,_,i⟩⟩:=a.gl;grind
def Rd.h5{j}(a:Rd c j b d)(x:b.an<24):Rd c j { b with an:=b.an+1 } (d.setCell ⟨c.R,2,none⟩ (Y ((b.an+1:Nat):Int))):=by
 obtain⟨y,q,z,r⟩:=a.lt;obtain⟨A,B,C,D,E,F⟩:=a.cc;have f:ap [c.R] d (d.setCell ⟨c.R,2,none⟩ (Y ((b.an+1:Nat):Int))):=(ar [c.R] d).a6 (p:=⟨c.R,2,none⟩) Zq _;refine⟨ci (i:=2) a.me _,?_,a.nm.ae f (by simp;exact a.cD.1) Zg,a.cD,λk n=>Yr (a.bn k n) f.aG,
  (f.ak _ r Zg).trans a.pr,a.np,?_,a.de,?_⟩
 .obtain⟨m,e⟩:=a.sc;have g:=f.ak _ q Zg;refine⟨m,?_⟩;cases h:b.nx with
  |some k=>rw[h]at e;exact g.trans e
  |none=>rw[h]at e;obtain⟨o,t,s,l,e⟩:=e;exact⟨o,t,s,l,g.trans e⟩
 .obtain⟨u,v,w⟩:=a.kc;exact a.gl.ae f Zg Zg Zg
 .exact⟨Zg,a.bm.2⟩
def Rd.m9{j}(a:Rd c j b d)(x:b.ax<40):Rd c j { b with ax:=b.ax+1 } (d.setCell ⟨c.R,3,none⟩ (Y ((b.ax+1:Nat):Int))):=by
 obtain⟨y,q,z,r⟩:=a.lt;obtain⟨A,B,C,D,E,F⟩:=a.cc;have f:ap [c.R] d (d.setCell ⟨c.R,3,none⟩ (Y ((b.ax+1:Nat):Int))):=(ar [c.R] d).a6 (p:=⟨c.R,3,none⟩) Zq _;refine⟨ci (i:=3) a.me _,?_,a.nm.ae f (by simp;exact a.cD.1) Zg,a.cD,λk n=>Yr (a.bn k n) f.aG,
  (f.ak _ r Zg).trans a.pr,a.np,?_,a.de,?_⟩
 .obtain⟨m,e⟩:=a.sc;have g:=f.ak _ q Zg;refine⟨m,?_⟩;cases h:b.nx with
  |some k=>rw[h]at e;exact g.trans e
  |none=>rw[h]at e;obtain⟨o,t,s,l,e⟩:=e;exact⟨o,t,s,l,g.trans e⟩
 .obtain⟨u,v,w⟩:=a.kc;exact a.gl.ae f Zg Zg Zg
 .exact⟨a.bm.1,Zg⟩
def Ch{j}(e:Nat)(g:Rd c j b d):Calls prog 190 #[Zp c.R,Y e] d (fH [c.R] c j d (kD e b) uS):=by
 obtain⟨q,r,s,t,u,w⟩:=g.K;have v:=g.bm;by_cases i:24<=b.an
 .have h:(24:Int)<=b.an:=Zm;go_in;go_wp2_with (go_at_call 201;refine(GM _ _ _ _ h).mono ?_;rintro k o ⟨⟨p,m,rfl,n⟩,l⟩);exact bM (gJ (f:=⟨5,e⟩) (ef _ l) (ar [] _) (by rw[kD,Y9 i]) m n)
 .have h:¬(24:Int)<=b.an:=Zm;go_in;go_wp2_with (go_at_call 201;refine(GO _ _ _ _ h).mono ?_;rintro k o ⟨rfl,rfl⟩);go_end0;refine hM (a:=()) ((ar ..).a6 Zq _) (by rw[kD,Y2 i]) rfl ?_;exact g.h5 Zm
def MS{j}(e:Nat)(g:Rd c j b d):Calls prog 184 #[Zp c.R,Y e] d (fH [c.R] c j d (lF e b) uS):=by
 obtain⟨q,r,s,t,u,w⟩:=g.K;have v:=g.bm;by_cases i:40<=b.ax
 .have h:(40:Int)<=b.ax:=Zm;go_in;go_wp2_with (go_at_call 201;refine(GM _ _ _ _ h).mono ?_;rintro k o ⟨⟨p,m,rfl,n⟩,l⟩);exact bM (gJ (f:=⟨5,e⟩) (ef _ l) (ar [] _) (by rw[lF,Y9 i]) m n)
 .have h:¬(40:Int)<=b.ax:=Zm;go_in;go_wp2_with (go_at_call 201;refine(GO _ _ _ _ h).mono ?_;rintro k o ⟨rfl,rfl⟩);go_end0;refine hM (a:=()) ((ar ..).a6 Zq _) (by rw[lF,Y2 i]) rfl ?_;exact g.m9 Zm
end
section
variable {b e:Nat}{T et kt:TypeId}{d:TypeDesc}{a:Array MapEntry}{c:Type}
section
variable {P : Program} {w : Zw}
def zv(q:P.underlying T=some (.map kt et))(i:P.underlying kt=some d){k}(p:IsKey d k)
  (n:w.heap[b]?=some (.map a e)) (t:∀l∈a.toList,IsKey d l.key) {m} (u:(zeroValue et).run P w=.ok m w) (c:Bool) :
  ((∀l∈a.toList,l.key≠k)/\(Instr.lookup T (.map (some b)) k c).run P w=.ok (if c then .tuple #[m,.bool false]else m) w)\/
  (∃(j:Nat) (f:MapEntry),a.toList[j]?=some f/\f.key=k/\(Instr.lookup T (.map (some b)) k c).run P w=.ok (if c then .tuple #[f.val,.bool true]else f.val) w):=by
 have o:=λr=>MapKept.run_checkKey (w:=w) i p r 9999;rcases findNow_spec p a.toList 0 t with⟨g,h⟩|⟨j,f,g,h,s⟩
 .refine Y8 ⟨h,?_⟩;cases c<;>simp[Instr.lookup,Instr.findKey,run_underlying q,run_underlying i,MapKept.run_getObj_map n,o,g,u,Result.andThen]
 .refine Ya ⟨j,f,h,s,?_⟩;cases c<;>simp[Instr.lookup,Instr.findKey,run_underlying q,run_underlying i,MapKept.run_getObj_map n,o,g,Result.andThen]
def CD(o:P.underlying T=some (.map kt et))(h:P.underlying kt=some d){k}(i:IsKey d k)
  (g:w.heap[b]?=some (.map a e)) (n:∀c∈a.toList,IsKey d c.key) (r:∀c∈a.toList,c.key≠k) (v:Zv) :
  (Instr.mapUpdate T (.map (some b)) k v).run P w=.ok () { w with heap:=w.heap.setIfInBounds b (.map (a.push ⟨k,v,e⟩) (e+1)) }:=by
 have m:=λj=>MapKept.run_checkKey (w:=w) h i j 9999;rcases findNow_spec i a.toList 0 n with⟨f,l⟩|⟨s,p,f,l,q⟩
 .simp[Instr.mapUpdate,Instr.findKey,run_underlying o,run_underlying h,MapKept.run_getObj_map g,m,f,MapKept.run_setObj_map _ g,Result.andThen]
 grind
end
def aP(b:List (Zb×c))(a:Zb):Option c:=(b.find? λd=>d.1==a).map (·.2)
def ZP{b:List (Zb×c)}{a:Zb}(e:∀d∈b,d.1≠a):aP b a=none:=by
 grind [aP]
theorem BS{a:List (Zb×c)}{d:Zb}(f:(a.map (·.1)).Nodup){b:Zb×c}(g:b∈a)(e:b.1=d):aP a d=some b.2:=by
 induction a with
 |nil=>grind
 |cons i j h=>
  grind [aP]
def xz(e:List (Zb×Zv)):∀c∈(e.mapIdx λa b=>(⟨.string ⟨b.1.toArray⟩,b.2,a⟩:MapEntry)),IsKey .string c.key:=by
 intro c d;obtain⟨a,f,rfl⟩:=List.mem_mapIdx.1 d;trivial
end
def Ce{l j c b}(q:iA l j c b)(g:Zb)(f:Bool):(aP c g=none/\(Instr.lookup 148 (.map (some j)) (Zs g) f).run prog b=.ok (if f then .tuple #[.nilIface,.bool false]else .nilIface) b)\/
  (∃o v k,aP c g=some o/\dF l k b/\og k v o/\(Instr.lookup 148 (.map (some j)) (Zs g) f).run prog b=.ok (if f then .tuple #[v,.bool true]else v) b):=by
 obtain⟨G,k,h,x,y,r,z⟩:=q;have s:IsKey .string (Zs g):=trivial;have A:=xz (c.zip h |>.map λa=>(a.1.1,a.2));have u:(zeroValue 157).run prog b=.ok .nilIface b:=Zk;rcases zv (P:=prog) (T:=148) (kt:=9) (et:=157) (d:=.string) Zk Zk s r Zm u f with⟨i,m⟩|⟨n,p,i,m,w⟩
 .refine Y8 ⟨ZP ?_,m⟩;intro a t p;obtain⟨e,B,rfl⟩:=List.getElem_of_mem t;have C:e<h.length:=Zm;have F:(⟨.string ⟨c[e].1.toArray⟩,h[e],e⟩:MapEntry)∈((c.zip h |>.map λa=>(a.1.1,a.2)).mapIdx λe a=>(⟨.string ⟨a.1.toArray⟩,a.2,e⟩:MapEntry)).toArray.toList:=by
   grind
  grind
 .simp only[List.toList_toArray,List.getElem?_mapIdx]at i;have D:n<c.length:=by
   grind
  have E:n<h.length:=Zm;rw[Yd Zu]at i;simp at i;grind [BS]
def nI(a:Mar.aU):PM Int:=λb=>
 match aP b.G a.text with
 |some (some (.const _ _ v))=>.ok (v,b)
 |_=>.error ⟨7,a.y⟩
abbrev nO:Int->Zv:=λa=>Y a
theorem Pg(a:Zw):(Instr.typeAssert .nilIface 157 223 true).run prog a=.ok (.tuple #[.pointer none,.bool false]) a:=Zk
def af7(a:Zv)(b:Zw):(Instr.typeAssert (.iface 223 a) 157 223 true).run prog b=.ok (.tuple #[a,.bool true]) b:=Zk
theorem af6(c:aD)(f:Zv)(d:Zw)(h:∀b a v,c≠.const b a v):(Instr.typeAssert (.iface (fC c) f) 157 223 true).run prog d=.ok (.tuple #[.pointer none,.bool false]) d:=by
 cases c with
 |const b a v=>simp_all
 |typedef c=>kernel_rfl
 |enum b a e=>kernel_rfl
 |struct b a e=>kernel_rfl
 |union b a j g=>kernel_rfl
 |prog b a k i=>kernel_rfl
def TO{d u h}(a:Mar.aU){w}(l:Rd d u h w):Calls prog 267 #[Zp d.R,dH a] w (fH [] d u w (nI a h) nO):=by
 have m:=((Below.refl w.heap.size w).alloc (Y4 _) (.cells #[Y a.w,Zs a.text,Y a.n,Y a.y] 154)).drew;obtain⟨o,p,G,H,I,L⟩:=l.K;have M:=l.lt.1;have i:=l.az m;have key:(∃v,(Instr.lookup 148 (.map (some d.N)) (Zs a.text) false).run prog ((w.alloc (.cells #[Y a.w,Zs a.text,Y a.n,Y a.y] 154)).drew)=.ok v ((w.alloc (.cells #[Y a.w,Zs a.text,Y a.n,Y a.y] 154)).drew)/\
    (∀n,(Instr.typeAssert v 157 223 true).run prog n=.ok (.tuple #[.pointer none,.bool false]) n)/\nI a h=.error ⟨7,a.y⟩)\/
   (∃(c:Nat) (o p:Zv) (b:Int),(Instr.lookup 148 (.map (some d.N)) (Zs a.text) false).run prog ((w.alloc (.cells #[Y a.w,Zs a.text,Y a.n,Y a.y] 154)).drew)=.ok (.iface 223 (Zp c)) ((w.alloc (.cells #[Y a.w,Zs a.text,Y a.n,Y a.y] 154)).drew)/\
    (w.alloc (.cells #[Y a.w,Zs a.text,Y a.n,Y a.y] 154)).heap[c]?=some (.cells #[o,p,Y b] 343)/\nI a h=.ok (b,h)):=by
  rcases Ce i.nm a.text false with⟨s,g⟩|⟨D,v,F,s,B,r,g⟩
  .simp_all[Pg,nI]
  .simp only[Ye,if_false]at g
   cases D with
   |none=>
    have O:v=.nilIface:=r;grind [Pg,nI]
   |some y=>
    obtain⟨c,rfl,A⟩:=r;by_cases z:∃t k b,y=.const t k b
    .obtain⟨t,k,b,rfl⟩:=z;exact Ya ⟨c,_,_,b,g,(B _ A).1,by simp only[nI,s]⟩
    simp_all[af6,nI]
 rcases key with⟨v,g,C,e⟩|⟨c,P,S,b,g,q,e⟩
 .have j:=U e;clear e i m;dsimp only[dH];go_in;go_wp2;go_region;go_wp2_with (go_at_call 70;refine(fp _ _ _).mono ?_;rintro J a0 ⟨rfl,rfl⟩);exact bM (gJ (M':=[]) (w1:=w) (f:=⟨7,a.y⟩) (((ar ..).A _).A _).ag (ar ..) j.i Zm (be (w:=w.alloc _) Zq))
 .have j:=U e;have C:=λE=>af7 E;have K:(w.alloc (.cells #[Y a.w,Zs a.text,Y a.n,Y a.y] 154)).cell? (Zd c 2)=some (Y b):=by simp[World.cell?,q]
  have x:=U i;clear e i m q;dsimp only[dH];go_in;go_wp2;go_region;go_wp2;go_ret;exact hM (a:=b) (((ar ..).A _).ag) j.i rfl x.i
def lE(a:Mar.aU):PM Int:=
 if((a.w:Int)==3)then ret a.n
 else if((a.w:Int)==1)then nI a
 else if a.text==JF then ret 1
 else if a.text==JC then ret 0
 else hZ 3 a.y
def ZW{a:Mar.aU}(b:((a.w:Int)==3)=true):lE a=ret a.n:=by unfold lE;simp_all
theorem Ms{a:Mar.aU}(b:((a.w:Int)==3)=false)(c:((a.w:Int)==1)=true):lE a=nI a:=by simp_all[lE]
def ZX{a:Mar.aU}(b:((a.w:Int)==3)=false)(c:((a.w:Int)==1)=false)(d:(a.text==JF)=true):lE a=ret 1:=by simp_all[lE]
def ZY{a:Mar.aU}(b:((a.w:Int)==3)=false)(c:((a.w:Int)==1)=false)(d:(a.text==JF)=false)(e:(a.text==JC)=true):lE a=ret 0:=by simp_all[lE]
def ZZ{a:Mar.aU}(b:((a.w:Int)==3)=false)(c:((a.w:Int)==1)=false)(d:(a.text==JF)=false)(e:(a.text==JC)=false):lE a=hZ 3 a.y:=by simp_all[lE]
def aaa{d g h}(c:Mar.aU){a}(b:Rd d g h a):Calls prog 245 #[Zp d.R,dH c] a (fH [] d g a (lE c h) nO):=by
 have e:=U (λo=>TO c (b.az ((Below.refl a.heap.size a).alloc (Y4 _) o)));dsimp only[dH]at e ⊢;go_in;go_wp2_with (first
  |(go_at_call 70;refine(fp _ _ _).mono ?_;rintro i s ⟨rfl,rfl⟩)
  |(go_at_call 267;refine(e.i _).mono ?_;rintro i p ⟨f,⟨r,t,n,rfl,m⟩|⟨j,n,q,k,rfl,l⟩⟩))
 .go_ret;exact hM ((ar ..).A _) (by rw[ZW ‹_›];rfl) rfl (b.az ((Below.refl ..).alloc (Y4 _) _))
 .go_ret;exact hM (((ar ..).A _).u f) (by simp_all[Ms]) rfl m
 .exact bM (gJ (((ar ..).A _).u f) ((ar [] _).A _) (by simp_all[Ms]) k l)
 .go_ret;exact hM ((ar ..).A _) (by rw[ZX ‹_› ‹_› ‹_›];rfl) rfl (b.az ((Below.refl ..).alloc (Y4 _) _))
 .go_ret;exact hM ((ar ..).A _) (by rw[ZY ‹_› ‹_› ‹_› ‹_›];rfl) rfl (b.az ((Below.refl ..).alloc (Y4 _) _))
 .exact bM (gJ (M':=[]) (w1:=a) (f:=⟨3,c.y⟩) (((ar ..).A _).A _) (ar ..) (by rw[ZZ ‹_› ‹_› ‹_› ‹_›];rfl) Zm (be Zq))
def oV(c:List Nat)(v:Zv)(i:Int->Bool)(j:Zw):Prop:=
 ∃(d:Zo) (b:Nat) (g f:Array Zv),v=.func (.func b) g f/\dF c d j/\(∀args a,(callFunc b args).run prog a=.ok (.enter b args) a)/\
  ∀a,dF c d a->∀e:Int,Calls prog b (g.push (Y e)++f) a λh k=>h=.returned (.bool (i e))/\Below a.heap.size a k
def jZ(d:Za)(c:Int->Bool):PM (Int×Nat):=aN (next d) λa=>aN (lE a) λb=>if c b then ret (b,a.y)else hZ 8 a.y
abbrev zL:Int×Nat->Zv:=λa=>.tuple #[Y a.1,Y a.2]
def PI{b u z v i j}(m:Rd b u z j)(H:oV b.X v i j):Calls prog 188 #[Zp b.R,v] j (fH [b.S] b u j (jZ u i z) zL):=by
 obtain⟨P,a0,a1,a2,a3,a5⟩:=m.K;obtain⟨O,l,a8,a7,rfl,I,a4,G⟩:=H;have C:=U I;have B:=U G;have A:=U (wl m);go_in;go_wp2_with (first
  |(go_at_call 118;refine A.i.mono ?_;rintro f d ⟨q,⟨c,b4,h,rfl,x⟩|⟨l,h,F,o,rfl,p⟩⟩<;>(try dsimp only[dH]);have e:=U q;have Hx:=U h;have D:=U x;clear q h x)
  |(go_at_call 245;refine(aaa c (D.i.az ((Below.refl ..).alloc (Y4 _) _))).mono ?_;rintro f b3 ⟨g,⟨t,b5,s,rfl,K⟩|⟨l,s,F,o,rfl,p⟩⟩<;>(try dsimp only[nO]))
  |(go_at_call 70;refine(fp _ _ _).mono ?_;rintro f M ⟨rfl,rfl⟩))
 .have J:=(C.i.ae e.i (by simp;exact m.cD.2.1)).ae (ef [] ((Below.refl d.heap.size d).alloc (Y4 _) (.cells #[Y c.w,Zs c.text,Y c.n,Y c.y] 154))) Zq |>.ae g Zq;refine(B.i _ J _).mono ?_;rintro f N ⟨rfl,n⟩;have y:=(g.ak d.heap.size Zq Zq).trans (be rfl);have L:=(n.block d.heap.size (ay y)).trans y;obtain⟨a9,b0,b1,b2,a6⟩:=tC L;have k:=U (((e.i.A _).u (g.aZ Zq)).u (ef [b.S] n));have E:=U (K.az n);have w:=U s;go_wp2_with (go_at_call 70;refine(fp _ _ _).mono ?_;rintro f M ⟨rfl,rfl⟩)
  .have r:i t=false:=Zu;refine bM (gJ (M':=[b.S]) (w1:=N) (f:=⟨8,c.y⟩) (k.i.A _) k.i ((bK Hx.i).trans ((bK w.i).trans ?_)) (Y4 _) (be rfl));rw[r];rfl
  .have r:i t=true:=Zu;go_region;go_wp2;go_ret2;exact hM (a:=(t,c.y)) k.i.ag ((bK Hx.i).trans ((bK w.i).trans (by rw[r];rfl))) rfl (E.i.az ((Below.refl ..).drew))
 .exact bM (gJ ((e.i.A _).u (g.aZ Zq)) (e.i.A _) ((bK Hx.i).trans (dv s)) o p)
 .exact bM (gJ q (ar [] _) (dv h) o p)
section
variable {c A':Ad}{w:Zw}{d:St}
def dT(c b:Int):Int->Bool:=λa=>decide (c<=a)&&decide (a<=b)
def ahB(d c e:Int)(b a:Nat)(w:Zw)(i:w.cell? (Zd b 0)=some (Y d))(h:w.cell? (Zd a 0)=some (Y c)):Calls prog 246 #[Y e,Zp b,Zp a] w λf g=>f=.returned (.bool (dT d c e))/\Below w.heap.size w g:=by
 go_in;go_wp2;all_goals
  go_ret;refine⟨pJ ?_,Below.refl ..⟩;unfold dT;simp;try omega
def ahC(args:Array Zv)(w:Zw):(callFunc 246 args).run prog w=.ok (.enter 246 args) w:=Zk
def wG(b a:Int)(w:Zw):Calls prog 189 #[Y b,Y a] w λh f=>∃v,h=.returned v/\Below w.heap.size w f/\∀c:List Nat,(∀k∈c,k<w.heap.size)->oV c v (dT b a) f:=by
 have o:=jT;go_in;go_wp2;go_ret;refine⟨.func (.func 246) #[] #[Zp w.heap.size,.pointer (some ⟨w.heap.size+1,0,none⟩)],rfl,((Below.refl ..).alloc (Y4 _) _).alloc Zq _,?_⟩;intro c n;refine⟨[(w.heap.size,.cells #[Y b] 2),(w.heap.size+1,.cells #[Y a] 2)],_,_,_,rfl,?_,ahC,?_⟩
 .intro p e;simp at e;rcases e with rfl|rfl
  .exact⟨(Below.heap_alloc _ _ _ Zq).trans (be rfl),λi=>by grind⟩
  .exact⟨be Zq,λi=>by grind⟩
 .intro g d j;have l:=(d _ (Yb ..)).1;have m:=(d _ (Y5 _ (Yb ..))).1;exact ahB b a j _ _ g (by grind [World.cell?]) (by grind [World.cell?])
abbrev Be:Int×Bool->Zv:=λa=>.agg #[Y a.1,.bool a.2]
def rH(a:Za):PM (Int×Bool):=aN (cu a [60]) λ_=>aN (el a [62]) λc=>
 if c then ret (4294967295,false)else aN (jZ a (dT 0 4294967295)) λb=>aN (cu a [62]) λ_=>ret (b.1,false)
def pW(A' c:Ad):Prop:=A'.R=c.R/\A'.S=c.S/\A'.N=c.N/\A'.P=c.P
theorem rh(c:Ad)(a:Nat):pW (c.cP a) c:=⟨rfl,rfl,rfl,rfl⟩
def EZ(e:pW A' c){b}(a:Za)(f:Rd A' b d w):Calls prog 187 #[Zp c.R,.string a] w (fH [c.S] A' b w (cu b a.data.toList d) dH):=by
 have:=hq a f;rw[e.1,e.2.1]at this;exact this
def JP(e:pW A' c){b}(a:Za)(f:Rd A' b d w):Calls prog 192 #[Zp c.R,.string a] w (fH [c.S] A' b w (el b a.data.toList d) .bool):=by
 have:=pq a f;rw[e.1,e.2.1]at this;exact this
def PJ(b:pW A' c){a v e}(f:Rd A' a d w)(g:oV A'.X v e w):Calls prog 188 #[Zp c.R,v] w (fH [c.S] A' a w (jZ a e d) zL):=by
 have:=PI f g;rw[b.1,b.2.1]at this;exact this
def sJ{a:Nat}{b c:Zv}{d}(f:w.heap[a]?=some (.cells #[b,c] d)):w.cell? (Zd a 0)=some b/\w.cell? (Zd a 1)=some c/\∀e,w.frozen? ⟨a,e,none⟩=false:=by
 grind [World.cell?,World.frozen?]
def zl{d m e a f}(g:Rd c d m w)(j:ap f w a)(n:Rd (c.cP w.heap.size) d e a)(h i:Zv):ap f w ((a.setCell ⟨w.heap.size,0,none⟩ h).setCell ⟨w.heap.size,1,none⟩ i)/\Rd c d e ((a.setCell ⟨w.heap.size,0,none⟩ h).setCell ⟨w.heap.size,1,none⟩ i):=by
 refine⟨(j.c0 (Y4 _) _).c0 (Y4 _) _,IJ (b:=w.heap.size) g.cD ?_⟩;have o:=λ{a:Zw} (k:Rd (c.cP w.heap.size) d e a) (l:Nat) (v:Zv)=>IK (A':=c.cP w.heap.size) g ⟨rfl,rfl,rfl,rfl⟩ k (p:=⟨w.heap.size,l,none⟩) (Y4 _) (by simp[Ad.cP]) v;simp_all
def MJ{H}(i:Rd c H d w):Calls prog 248 #[Zp c.R] w (fH [c.S] c H w (rH H d) Be):=by
 have a8:=i.lt.2.1;have j:w.heap.size ∉ [c.S]:=Zg;have J:=be (w:=w) (o:=.cells #[Y 0,.bool false] 375) rfl;have O:=i.gV (.cells #[Y 0,.bool false] 375);have x:=(ar [c.S] w).A (.cells #[Y 0,.bool false] 375);go_in;go_wp21;refine(EZ (rh c _) _ O).mono ?_;rintro h a9 ⟨y,⟨b4,b6,f,rfl,a3⟩|⟨m,f,l,b,rfl,e⟩⟩;rotate_left
 .exact bM (gJ (x.u y) x (dv f) b e)
 have K:=(y.ak _ (ay J) j).trans J;have q:=x.u y;go_wp21;refine(JP (rh c _) _ a3).mono ?_;rintro h b0 ⟨z,⟨a7,b7,g,rfl,C⟩|⟨m,g,l,b,rfl,e⟩⟩;rotate_left
 .exact bM (gJ (q.u z) q ((bK f).trans (dv g)) b e)
 have t:=(z.ak _ (ay K) j).trans K;have I:=q.u z;obtain⟨F,G,a2⟩:=sJ t;cases a7 with
 |true=>
  go_wp2;obtain⟨n,p⟩:=zl i I C (Y 4294967295) (.bool false);exact bodyPost_ret (v:=.agg #[Y 4294967295,.bool false]) (by simp[results,results248,go_sem,F,G]) rfl (hM (a:=(4294967295,false)) n ((bK f).trans (bK g)) rfl p)
 |false=>
  go_wp21;refine(wG _ _ _).mono ?_;rintro h b1 ⟨v,rfl,u,a0⟩;have a1:=a0 (c.cP w.heap.size).X C.bn;have a4:=C.az u;have r:=I.u (ef [c.S] u);have L:=(u.block _ (ay t)).trans t;go_wp21;refine(PJ (rh c _) a4 a1).mono ?_;rintro h b2 ⟨A,⟨E,b8,k,rfl,a5⟩|⟨m,k,l,b,rfl,e⟩⟩;rotate_left
  .exact bM (gJ (r.u A) r ((bK f).trans ((bK g).trans (dv k))) b e)
  have s:=r.u A;have M:=(A.ak _ (ay L) j).trans L;dsimp only[zL];go_wp21;refine(EZ (rh c _) _ a5).mono ?_;rintro h b3 ⟨B,⟨b5,b9,D,rfl,a6⟩|⟨m,D,l,b,rfl,e⟩⟩;rotate_left
  .exact bM (gJ (s.u B) s ((bK f).trans ((bK g).trans ((bK k).trans (dv D)))) b e)
  have N:=s.u B;have P:=(B.ak _ (ay M) j).trans M;obtain⟨F,G,a2⟩:=sJ P;go_wp2;obtain⟨n,p⟩:=zl i N a6 (Y E.1) (.bool false);exact bodyPost_ret (v:=.agg #[Y E.1,.bool false]) (by simp[results,results248,go_sem,F,G]) rfl (hM (a:=(E.1,false)) n ((bK f).trans ((bK g).trans ((bK k).trans (bK D)))) rfl p)
end
section
variable {b:Ad}{w:Zw}{c:St}
def aaW{a}(e:pW a b){d}(f:Rd a d c w):Calls prog 248 #[Zp b.R] w (fH [b.S] a d w (rH d c) Be):=by
 have:=MJ f;rw[e.1,e.2.1]at this;exact this
def qg(a:Za):PM (Int×Bool):=aN (el a [91]) λc=>
 if c then aN (jZ a (dT 1 1000)) λb=>aN (cu a [93]) λ_=>ret (b.1,true)else rH a
def Ki{J}(j:Rd b J c w):Calls prog 247 #[Zp b.R] w (fH [b.S] b J w (qg J c) Be):=by
 have a6:=j.lt.2.1;have n:w.heap.size ∉ [b.S]:=Zg;have K:=be (w:=w) (o:=.cells #[Y 0,.bool false] 375) rfl;have N:=j.gV (.cells #[Y 0,.bool false] 375);have y:=(ar [b.S] w).A (.cells #[Y 0,.bool false] 375);go_in;go_wp21;refine(JP (rh b _) _ N).mono ?_;rintro i a7 ⟨z,⟨a5,b1,g,rfl,D⟩|⟨r,g,q,e,rfl,f⟩⟩;rotate_left
 .exact bM (gJ (y.u z) y (dv g) e f)
 have l:=(z.ak _ (ay K) n).trans K;have k:=y.u z;cases a5 with
 |false=>
  go_wp21;refine(aaW (rh b _) D).mono ?_;rintro i a4 ⟨A,⟨d,b2,F,rfl,E⟩|⟨r,F,q,e,rfl,f⟩⟩;rotate_left
  .exact bM (gJ (k.u A) k ((bK g).trans F) e f)
  have h:=k.u A;have m:=(A.ak _ (ay l) n).trans l;obtain⟨H,I,a1⟩:=sJ m;dsimp only[Be];go_wp2;obtain⟨s,t⟩:=zl j h E (Y d.1) (.bool d.2);exact bodyPost_ret (v:=.agg #[Y d.1,.bool d.2]) (by simp[results,results247,go_sem,H,I]) rfl (hM (a:=d) s ((bK g).trans F) rfl t)
 |true=>
  go_wp21;refine(wG _ _ _).mono ?_;rintro i a4 ⟨v,rfl,x,P⟩;have a0:=P (b.cP w.heap.size).X D.bn;have E:=D.az x;have h:=k.u (ef [b.S] x);have m:=(x.block _ (ay l)).trans l;go_wp21;refine(PJ (rh b _) E a0).mono ?_;rintro i a8 ⟨B,⟨d,b3,p,rfl,a2⟩|⟨r,p,q,e,rfl,f⟩⟩;rotate_left
  .exact bM (gJ (h.u B) h ((bK g).trans (dv p)) e f)
  have u:=h.u B;have L:=(B.ak _ (ay m) n).trans m;dsimp only[zL];go_wp21;refine(EZ (rh b _) _ a2).mono ?_;rintro i a9 ⟨C,⟨b0,b4,G,rfl,a3⟩|⟨r,G,q,e,rfl,f⟩⟩;rotate_left
  .exact bM (gJ (u.u C) u ((bK g).trans ((bK p).trans (dv G))) e f)
  have M:=u.u C;have O:=(C.ak _ (ay L) n).trans L;obtain⟨H,I,a1⟩:=sJ O;go_wp2;obtain⟨s,t⟩:=zl j M a3 (Y d.1) (.bool true);exact bodyPost_ret (v:=.agg #[Y d.1,.bool true]) (by simp[results,results247,go_sem,H,I]) rfl (hM (a:=(d.1,true)) s ((bK g).trans ((bK p).trans (bK G))) rfl t)
def rU(a:Za):PM Ty:=aN (el a Jt) λb=>if b then ret .void else sa a
def Oq{i}(p:Rd b i c w):Calls prog 269 #[Zp b.R] w (fH [b.S] b i w (rU i c) fY):=by
 have l:=U (pq ⟨#[118,111,105,100]⟩ p);go_in;go_wp21;refine l.i.mono ?_;rintro n t ⟨d,⟨r,v,e,rfl,k⟩|⟨o,e,m,f,rfl,g⟩⟩;rotate_left
 .exact bM (gJ d (ar [] _) (dv e) f g)
 cases r with
 |true=>
  go_wp2;go_ret;exact hM (a:=.void) d ((bK e).trans rfl) rfl k
 |false=>
  go_wp21;refine(Pz k).mono ?_;rintro n u ⟨j,⟨s,x,h,rfl,q⟩|⟨o,h,m,f,rfl,g⟩⟩;rotate_left
  .exact bM (gJ (d.u j) d ((bK e).trans h) f g)
  go_wp2;go_ret;exact hM (d.u j) ((bK e).trans h) rfl q
end
abbrev fg(a:Zw)(b:Nat)(c:Obj):Zw:={ a with heap:=a.heap.setIfInBounds b c }
theorem pI(b:Zw)(a:Nat)(c:Obj):ap [a] b (fg b a c):=by
 refine⟨rfl,rfl,rfl,Zq,λe _ d=>?_⟩;grind
def NF{c:Zw}{a:Nat}(d:a<c.heap.size)(b:Obj):(fg c a b).heap[a]?=some b:=by
 simp_all
theorem MO(a:List (Zb×Zv))(b:Zb)(v:Zv):uA (a++[(b,v)])=.map ((a.mapIdx λd c=>(⟨.string ⟨c.1.toArray⟩,c.2,d⟩:MapEntry)).toArray.push ⟨Zs b,v,a.length⟩) (a.length+1):=by
 grind [uA]
theorem iA.aX{e a l c}(m:iA e a l c)(t:a∈e){k:Zb}(y:aP l k=none):∃h,(Instr.mapUpdate 148 (.map (some a)) (Zs k) .nilIface).run prog c=.ok () (fg c a h)/\iA e a (l++[(k,none)]) (fg c a h):=by
 obtain⟨B,j,i,n,o,f,s⟩:=m;have x:=ay f;have z:∀b∈l,b.1≠k:=by
  intro b A r;grind [BS]
 have u:=xz (l.zip i |>.map λb=>(b.1.1,b.2));have q:=CD (P:=prog) (T:=148) (kt:=9) (et:=157) (d:=.string) Zk Zk (k:=Zs k) trivial f Zm (by
  grind) .nilIface
 refine⟨_,q,?_,j,i++[.nilIface],n.ae (pI ..) Zu,Zg,?_,?_⟩
 .simp only[List.map_append,List.map_cons,List.map_nil];rw[YJ];grind
 .simp_all[List.zip_append,MO]
 .intro g p v;by_cases w:g<l.length
  .simp_all
  .simp at p;have:g=l.length:=Zm;subst this;simp[og,o.symm]
section
variable {c:Ad}{w:Zw}{d:St}
def jc(a:Mar.aU):PM Unit:=λd=>
 match aP d.G a.text with
 |none=>.ok ((),{ d with G:=d.G++[(a.text,none)] })
 |some _=>.error ⟨6,a.y⟩
def Rd.jk{k j g}(a:Rd c k d w)(f:iA c.X c.N j (fg w c.N g)):Rd c k { d with G:=j } (fg w c.N g):=by
 obtain⟨q,r,E,s⟩:=a.lt;obtain⟨G,H,I,J,K,L⟩:=a.cc;have e:=pI w c.N g;obtain⟨y,x,D⟩:=a.nm.e8;refine⟨(e.ak _ q Zg).trans a.me,?_,f,a.cD,λl o=>Yr (a.bn l o) e.aG,(e.ak _ s Zg).trans a.pr,a.np,?_,a.de,a.bm⟩
 .obtain⟨n,b⟩:=a.sc;have i:=e.ak _ r Zg;refine⟨n,?_⟩;cases f:d.nx with
  |some l=>rw[f]at b;exact i.trans b
  |none=>rw[f]at b;obtain⟨p,u,t,m,b⟩:=b;exact⟨p,u,t,m,i.trans b⟩
 .have z:∀h v,w.cell? (Zd h 0)=some v->h≠c.N:=by
   grind [World.cell?]
  obtain⟨⟨F,A⟩,⟨_,_,B⟩,⟨_,_,C⟩⟩:=id a.gl;exact a.gl.ae e Zu Zu Zu
def agd{j}(b:Mar.aU)(e:Rd c j d w):Calls prog 244 #[.map (some c.N),Zs b.text,.nilIface,Y b.y] w (fH [c.N] c j w (jc b d) uS):=by
 rcases Ce e.nm b.text true with⟨g,i⟩|⟨m,v,n,g,q,p,i⟩
 .simp only[if_true]at i
  obtain⟨m,r,l⟩:=e.nm.aX e.cD.2.2.1 g;have k:=U (e.jk l);have h:af (jc b d=.ok ((),{ d with G:=d.G++[(b.text,none)] })):=by show _=_;simp only[jc,g]
  go_in;go_wp2;go_end0;exact hM (a:=()) (pI ..) h.i rfl k.i
 .simp only[if_true]at i
  have h:af (jc b d=.error ⟨6,b.y⟩):=by show _=_;simp only[jc,g]
  go_in;go_wp2_with (go_at_call 70;refine(fp _ _ _).mono ?_;rintro o s ⟨rfl,rfl⟩);exact bM (gJ (M':=[]) (w1:=w) (f:=⟨6,b.y⟩) ((ar ..).A _) (ar ..) h.i (Y4 _) (be rfl))
def ap.a2{a d}(g:ap a w d){b c:Nat}{v}(f:b ∉ a)(e:w.cell? (Zd b c)=some v):d.cell? (Zd b c)=some v:=by
 have:=g.ak b (iI e) f;grind [World.cell?]
def Uw{k}(b:Mar.aU)(i:Rd c k d w):Calls prog 186 #[Zp c.R,dH b] w (fH [c.N] c k w (jc b d) uS):=by
 obtain⟨J,z,K,L,M,a0⟩:=i.K;have a1:=i.lt.1;have a2:=i.lt.2.2.1;have P:=i.cc.2.1;have F:=((ar [c.N] w).A (.cells #[Y b.w,Zs b.text,Y b.n,Y b.y] 154)).ag;have r:=U (agd b (i.az (((Below.refl w.heap.size w).alloc (Y4 _) (.cells #[Y b.w,Zs b.text,Y b.n,Y b.y] 154)).drew)));have B:=be (w:=w) (o:=.cells #[Y b.w,Zs b.text,Y b.n,Y b.y] 154) rfl;obtain⟨a7,H,a8,I,_⟩:=tC B;have G:(w.alloc (.cells #[Y b.w,Zs b.text,Y b.n,Y b.y] 154)).cell? (Zd c.R 1)=some (.map (some c.N)):=xd ((Below.refl w.heap.size w).alloc (Y4 _) _) rfl z;have x:=U H;have y:=U I;have u:=U G;have m:=U F;have lD:∀(g:Mar.ac) (e:Nat) (h:Zw),jc b d=.error g->w.heap.size+1<=e->ap [c.N] w h->h.heap[e]?=some (.cells #[Y g.no,Y g.y] 179)->
   fH [c.N] c k w (jc b d) uS (.panicked [{ v:=.iface 143 (Zp e),recovered:=false }]) h:=by
  intro g e h E S f C;exact gJ (M':=[]) (w1:=w) f (ar ..) E Zm C
 have q:=U lD;dsimp only[dH];go_in;go_wp2;go_region_held2 (λl=>l.cell? (Zd c.R 1)=some (.map (some c.N))/\l.cell? (Zd w.heap.size 1)=some (Zs b.text)/\l.cell? (Zd w.heap.size 3)=some (Y b.y)) (go_keep)
  (first|(go_at_call 244;refine r.i.mono ?_;rintro O h ⟨f,⟨a6,a9,j,rfl,p⟩|⟨g,j,e,A,rfl,D⟩⟩;rotate_left;exact bM (q.i g e h j (by simpa using A) (m.i.u f) D);have a3:=f.a2 Zg u.i;have a4:=f.a2 (b:=w.heap.size) Zg x.i;have a5:=f.a2 (b:=w.heap.size) Zg y.i;have s:=U f;have Hx:=U j;have t:=U p;clear f j p))
 go_wp2;go_end0;exact hM (a:=()) (m.i.u s.i) Hx.i rfl t.i
end
section
variable {l:Zc}{b:Nat}{a:Zw}
def hO(b:Nat)(l:Zc)(a:Zw):Prop:=l.Nodup/\∃c:Zl,c.length=l.length/\a.heap[b]?=some (uA (l.zip c))
def hO.ae{e c}(f:hO b l a)(h:ap c a e)(i:b ∉ c):hO b l e:=by
 obtain⟨j,k,g,d⟩:=f;exact⟨j,k,g,(h.ak _ (ay d) i).trans d⟩
theorem hO.lt(c:hO b l a):b<a.heap.size:=by
 obtain⟨f,g,d,e⟩:=c;grind
def GZ(i:hO b l a)(k:Zb):(k ∉ l/\(Instr.lookup 103 (.map (some b)) (Zs k) true).run prog a=.ok (.tuple #[Y 0,.bool false]) a)\/
  (∃v,k∈l/\(Instr.lookup 103 (.map (some b)) (Zs k) true).run prog a=.ok (.tuple #[v,.bool true]) a):=by
 obtain⟨x,e,q,j⟩:=i;have r:=xz (l.zip e);have n:(zeroValue 3).run prog a=.ok (Y 0) a:=Zk;rcases zv (P:=prog) (T:=103) (kt:=9) (et:=3) (d:=.string) Zk Zk (k:=Zs k) trivial j Zm n true with⟨g,h⟩|⟨w,o,g,h,p⟩
 .refine Y8 ⟨?_,Zu⟩;intro m;obtain⟨c,s,rfl⟩:=List.getElem_of_mem m;have t:c<e.length:=Zm;have u:(⟨.string ⟨l[c].toArray⟩,e[c],c⟩:MapEntry)∈((l.zip e).mapIdx λc f=>(⟨.string ⟨f.1.toArray⟩,f.2,c⟩:MapEntry)).toArray.toList:=by
   grind
  grind
 grind
theorem hO.aX(g:hO b l a){k:Zb}(n:k ∉ l)(v:Zv):∃e,(Instr.mapUpdate 103 (.map (some b)) (Zs k) v).run prog a=.ok () (fg a b e)/\hO b (l++[k]) (fg a b e):=by
 obtain⟨o,f,i,c⟩:=g;have m:=ay c;have j:=xz (l.zip f);have h:=CD (P:=prog) (T:=103) (kt:=9) (et:=3) (d:=.string) Zk Zk (k:=Zs k) trivial c Zm (by
  grind) v
 refine⟨_,h,?_,f++[v],Zg,?_⟩
 .rw[YJ];grind
 simp_all[List.zip_append,MO]
def qi(a:Mar.aU)(l:Zc):Except Mar.ac (Zc):=if l.contains a.text then .error ⟨6,a.y⟩else .ok (l++[a.text])
def age(c:Mar.aU)(h:hO b l a):Calls prog 252 #[.map (some b),Zs c.text,Y c.y,Y c.y] a λf d=>ap [b] a d /\
   ((∃j,qi c l=.ok j/\f=.returned (.tuple #[])/\hO b j d)\/(∃g,qi c l=.error g/\eH a g.no g.y f d)):=by
 rcases GZ h c.text with⟨i,n⟩|⟨v,i,n⟩
 .obtain⟨p,o,m⟩:=h.aX i (Y c.y);have k:=U m;have e:af (qi c l=.ok (l++[c.text])):=by simp_all[qi]
  go_in;go_wp2;go_end0;exact⟨pI ..,Y8 ⟨_,e.i,rfl,k.i⟩⟩
 .have e:af (qi c l=.error ⟨6,c.y⟩):=by show _=_;simp_all[qi]
  go_in;go_wp2_with (go_at_call 70;refine(fp _ _ _).mono ?_;rintro f d ⟨rfl,rfl⟩);exact bM ⟨(ar ..).A _,Ya ⟨⟨6,c.y⟩,e.i,a.heap.size,Y4 _,rfl,be rfl⟩⟩
def Sj{i}(e:Mar.aU)(n:hO b l a)(o:a.cell? (Zd i 0)=some (.map (some b))):Calls prog 251 #[dH e,Zp i] a λf h=>ap [b] a h /\
   ((∃d,qi e l=.ok d/\f=.returned (.tuple #[])/\hO b d h)\/(∃c,qi e l=.error c/\eH a c.no c.y f h)):=by
 have t:=iI o;have k:=U (λs=>age e (n.ae (ef [] ((Below.refl a.heap.size a).alloc (Y4 _) s)) Zq));dsimp only[dH];go_in;go_wp2_with (go_at_call 252;refine(k.i _).mono ?_;rintro f u ⟨j,⟨d,g,rfl,r⟩|⟨c,g,m,p,rfl,q⟩⟩)
 .go_end0;exact⟨((ar ..).A _).u j,Y8 ⟨d,g,rfl,r⟩⟩
 .exact bM ⟨((ar ..).A _).u j,Ya ⟨c,g,m,by simp at p;omega,rfl,q⟩⟩
end
section
variable {m:Ad}{j:List Nat}{f:Mar.ac}{l:List (Int×Int)}{c:Nat}{b g:Zw}{e n τ:Type}{h i:St}
def hn(c:Nat)(l:List (Int×Int))(b:Zw):Prop:=b.heap[c]?=some (lG l)
def hn.ae(a:hn c l b)(d:ap j b g)(e:c ∉ j):hn c l g:=(d.ak _ (ay a) e).trans a
def Nf(l:List (Int×Int)):∀c∈(l.mapIdx λa b=>(⟨.int .i64 b.1,.int .i64 b.2,a⟩:MapEntry)),IsKey (.int .i64) c.key:=by
 intro c d;obtain⟨a,e,rfl⟩:=List.mem_mapIdx.1 d;rfl
def abK(h:hn c l b)(k:Int):(k ∉ l.map (·.1)/\(Instr.lookup 149 (.map (some c)) (.int .i64 k) true).run prog b=.ok (.tuple #[.int .i64 0,.bool false]) b)\/
  (∃v,k∈l.map (·.1)/\(Instr.lookup 149 (.map (some c)) (.int .i64 k) true).run prog b=.ok (.tuple #[v,.bool true]) b):=by
 have p:=Nf l;have m:(zeroValue 3).run prog b=.ok (.int .i64 0) b:=Zk;rcases zv (P:=prog) (T:=149) (kt:=2) (et:=3) (d:=.int .i64) Zk Zk (k:=.int .i64 k) rfl h Zm m true with⟨f,g⟩|⟨s,n,f,g,o⟩
 .refine Y8 ⟨?_,Zu⟩;intro i;obtain⟨e,j,rfl⟩:=YE.1 i;obtain⟨a,q,rfl⟩:=List.getElem_of_mem j;have r:(⟨.int .i64 l[a].1,.int .i64 l[a].2,a⟩:MapEntry)∈(l.mapIdx λa e=>(⟨.int .i64 e.1,.int .i64 e.2,a⟩:MapEntry)).toArray.toList:=by
   grind
  grind
 grind
theorem hn.aX(a:hn c l b){k:Int}(h:k ∉ l.map (·.1))(v:Int):∃e,(Instr.mapUpdate 149 (.map (some c)) (.int .i64 k) (.int .i64 v)).run prog b=.ok () (fg b c e)/\hn c (l++[(k,v)]) (fg b c e):=by
 have g:=ay a;have f:=Nf l;have i:=CD (P:=prog) (T:=149) (kt:=2) (et:=3) (d:=.int .i64) Zk Zk (k:=.int .i64 k) rfl a Zm (by
  grind) (.int .i64 v)
 grind [hn,lG]
def ox(a b:Int)(l:List (Int×Int))(f:Mar.ac):Except Mar.ac (List (Int×Int)):=if(l.map (·.1)).contains a then .error f else .ok (l++[(a,b)])
def Pi(d:Int)(a:Nat)(j:hn c l b):Calls prog 268 #[.map (some c),.int .i64 d,.int .i64 a,.int .i64 a] b λh g=>ap [c] b g /\
   ((∃m i,ox d a l ⟨6,a⟩=.ok m/\h=.returned (.tuple #[])/\g=fg b c i/\hn c m g)\/(∃f,ox d a l ⟨6,a⟩=.error f/\eH b f.no f.y h g)):=by
 rcases abK j d with⟨k,p⟩|⟨v,k,p⟩
 .obtain⟨i,q,o⟩:=j.aX k a;have n:=U o;have e:af (ox d a l ⟨6,a⟩=.ok (l++[(d,(a:Int))])):=by simp_all[ox]
  go_in;go_wp2;go_end0;exact⟨pI ..,Y8 ⟨_,i,e.i,rfl,rfl,n.i⟩⟩
 .have e:af (ox d a l ⟨6,a⟩=.error ⟨6,a⟩):=by show _=_;simp_all[ox]
  go_in;go_wp2_with (go_at_call 70;refine(fp _ _ _).mono ?_;rintro h g ⟨rfl,rfl⟩);exact bM ⟨(ar ..).A _,Ya ⟨⟨6,a⟩,e.i,b.heap.size,Y4 _,rfl,be rfl⟩⟩
def lW(j:List Nat)(m:Ad)(n:Za)(b:Zw)(d:Except Mar.ac (e×τ×St))(l:e->Zv)(k:τ->Zw->Prop)(c:Ending)(g:Zw):Prop:=
 ap j b g/\((∃a h i,d=.ok (a,h,i)/\c=.returned (l a)/\Rd m n i g/\k h g)\/(∃f,d=.error f/\eH b f.no f.y c g))
abbrev PX(τ e:Type):=τ->St->Except Mar.ac (e×τ×St)
def lift(b:PM e):PX τ e:=λc h=>match b h with
 |.ok (a,i)=>.ok (a,c,i)
 |.error f=>.error f
def aQ(c:PX τ e)(b:e->PX τ n):PX τ n:=λd h=>match c d h with
 |.ok (a,g,i)=>b a g i
 |.error f=>.error f
def eJ(a:e):PX τ e:=λb h=>.ok (a,b,h)
def pK(a:τ->Except Mar.ac τ):PX τ Unit:=λb h=>match a b with
 |.ok c=>.ok ((),c,h)
 |.error f=>.error f
def gF{b:PM e}{c:τ}{a:e}(d:b h=.ok (a,i)):lift b c h=.ok (a,c,i):=by simp only[lift,d]
theorem im{a:PM e}{c:τ}(b:a h=.error f):lift a c h=.error f:=by simp only[lift,b]
def dZ{c:PX τ e}{b:e->PX τ n}{d f:τ}{a:e}(g:c d h=.ok (a,f,i)):aQ c b d h=b a f i:=by simp only[aQ,g]
theorem fc{a:PX τ e}{d:e->PX τ n}{b:τ}(c:a b h=.error f):aQ a d b h=.error f:=by simp only[aQ,c]
theorem xW{a:τ->Except Mar.ac τ}{b c:τ}(d:a b=.ok c):pK a b h=.ok ((),c,h):=by simp only[pK,d]
theorem xV{a:τ->Except Mar.ac τ}{b:τ}(c:a b=.error f):pK a b h=.error f:=by simp only[pK,c]
def ir(b:Za)(a:Int->Bool):PX (List (Int×Int)) Int:=aQ (lift (jZ b a)) λc=>aQ (pK λl=>ox c.1 c.2 l ⟨6,c.2⟩) λ_=>eJ c.1
theorem DL{h}{f:Except Mar.ac (e×τ×St)}{d:e->Zv}{c:τ->Zw->Prop}{a:e}{t:τ}{v:Zv}
  (n:ap j b g) (o:f=.ok (a,t,i)) (p:v=d a) (k:Rd m h i g) (l:c t g):lW j m h b f d c (.returned v) g:=⟨n,Y8 ⟨a,t,i,o,by rw[p],k,l⟩⟩
def tM{M' p w1}{c:Except Mar.ac (e×τ×St)}{h d}{a:Nat}
  (l:ap j b g) (n:ap M' b w1) (o:c=.error f) (i:w1.heap.size<=a) (k:g.heap[a]?=some (.cells #[.int .i64 f.no,.int .i64 f.y] 179)) :
  lW j m p b c h d (.panicked [{ v:=.iface 143 (Zp a),recovered:=false }]) g:=
 ⟨l,Ya ⟨f,o,a,Yz n.aG i,rfl,k⟩⟩
end
section
variable {b:Ad}{f:List (Int×Int)}{g:Int->Bool}{c:Nat}{d:Zw}{e:St}
def ib(b:Ad)(c:Nat):Prop:=c∈b.X/\c≠b.R/\c≠b.S/\c≠b.N/\c≠b.P
def Rd.i1{g h j i}(f:Rd b g e d)(k:ap [c] d h)(l:ib b c)(q:d.heap[c]?=some (.map j i)):Rd b g e h:=by
 obtain⟨s,t,u,w,x⟩:=l;have m:∀a v,d.cell? (Zd a 0)=some v->a≠c:=by
  grind [World.cell?]
 obtain⟨⟨r,n⟩,⟨_,_,o⟩,⟨_,_,p⟩⟩:=id f.gl;exact f.ae k Zu Zg Zg Zg Zg Zu Zu Zu
def HM{a v}(f:Rd b a e d)(h:oV b.X v g d):Calls prog 188 #[Zp b.R,v] d (fH [b.S] b a d (jZ a g e) λc=>.tuple #[Y c.1,Y c.2]):=PI f h
def Gi{o v}(z:Rd b o e d)(A:oV b.X v g d)(q:ib b c)(B:hn c f d):Calls prog 250 #[Zp b.R,.map (some c),v] d (lW [b.S,c] b o d (ir o g f e) nO (hn c)):=by
 have r:=U (HM z A);have D:c ∉ [b.S]:=by simp;exact q.2.2.1
 go_in;go_wp21;refine r.i.mono ?_;rintro x I ⟨l,⟨F,K,h,rfl,E⟩|⟨y,h,w,j,rfl,k⟩⟩;rotate_left
 .exact bM (tM (l.aZ Zq) (ar [] _) (fc (im h)) j k)
 have p:=B.ae l D;have i:=U (l.aZ (M':=[b.S,c]) Zq);go_wp21;refine(Pi _ _ p).mono ?_;rintro x J ⟨m,⟨G,H,n,rfl,rfl,C⟩|⟨y,n,w,j,rfl,k⟩⟩;rotate_left
 .exact bM (tM (i.i.u (m.aZ Zq)) i.i ((dZ (gF h)).trans (fc (xV n))) j k)
 have u:=U (E.i1 m q p);have s:=U (i.i.u (m.aZ (M':=[b.S,c]) Zq));have t:=U C;go_wp2;go_ret;exact DL (a:=F.1) s.i ((dZ (gF h)).trans (dZ (xW n))) rfl u.i t.i
def sQ(a:Za):PX (List (Int×Int)) Int:=aQ (lift (cu a [61])) λ_=>aQ (ir a (dT 0 4294967295)) λb=>aQ (lift (cu a [59])) λ_=>eJ b
def KX{r}(z:Rd b r e d)(w:ib b c)(D:hn c f d):Calls prog 204 #[Zp b.R,.map (some c)] d (lW [b.S,c] b r d (sQ r f e) nO (hn c)):=by
 have x:c ∉ [b.S]:=by simp;exact w.2.2.1
 go_in;go_wp21;refine(hq _ z).mono ?_;rintro k M ⟨o,⟨a0,a2,i,rfl,y⟩|⟨t,i,s,g,rfl,h⟩⟩;rotate_left
 .exact bM (tM (o.aZ Zq) (ar [] _) (fc (im i)) g h)
 have E:=D.ae o x;have A:=o.aZ (M':=[b.S,c]) Zq;go_wp21;refine(wG _ _ _).mono ?_;rintro k N ⟨v,rfl,n,C⟩;have B:=C b.X y.bn;have H:=y.az n;have F:=E.ae (ef [] n) Zq;have l:=A.u (ef _ n);go_wp21;refine(Gi H B w F).mono ?_;rintro k O ⟨u,⟨K,L,a3,j,rfl,I,G⟩|⟨t,j,s,g,rfl,h⟩⟩;rotate_left
 .exact bM (tM (l.u u) l ((dZ (gF i)).trans (fc j)) g h)
 have m:=l.u u;dsimp only[nO];go_wp21;refine(hq _ I).mono ?_;rintro k P ⟨p,⟨a1,a4,q,rfl,J⟩|⟨t,q,s,g,rfl,h⟩⟩;rotate_left
 .exact bM (tM (m.u (p.aZ Zq)) m ((dZ (gF i)).trans ((dZ j).trans (fc (im q)))) g h)
 go_wp2;go_ret;exact DL (a:=K) (m.u (p.aZ Zq)) ((dZ (gF i)).trans ((dZ j).trans (dZ (gF q)))) rfl J (G.ae p x)
end
section
variable {T:TypeId}{args x:Array Zv}
inductive Th
 |obj (b:Nat) (o:Obj)
 |row (e:TypeId) (size:Nat) (v:Zv) (n:Nat) (xs:Zl)
def Th.aH:Th->Option Nat
 |.obj a _=>some a
 |.row _ _ v _ _=>v.ownBlock
def Th.At(c:Zw):Th->Prop
 |.obj a e=>c.heap[a]?=some e
 |.row b f v d g=>c.ownsRow 0 b f v d g
theorem bQ{c w':Zw}{d e h g v i M}(b:c.ownsRow d e h v g i)(o:ap M c w')(n:∀a,v.ownBlock=some a->a ∉ M):w'.ownsRow d e h v g i:=by
 refine⟨b.1,?_⟩;rcases b.2 with b|⟨a,j,k,rfl,l,f,m⟩
 .exact Y8 b
 .exact Ya ⟨a,j,k,rfl,l,(o.ak _ (ay f) (n a rfl)).trans f,m⟩
def lI{c:Zw}{b d j i g v k}(e:c.ownsRow b d j v i k)(a:v.ownBlock=some g):b<=g/\g<c.heap.size:=by
 rcases e.2 with⟨rfl,_⟩|⟨n,l,m,rfl,f,h,o⟩
 .cases a
 .simp only[Value.ownBlock,Yu]at a;subst a;exact⟨f,ay h⟩
def aW{c:Zw}{d e g b v h}(f:c.ownsRow d e g v b h):∃ad a,v=.slice ad b a:=by
 rcases f.2 with⟨rfl,rfl⟩|⟨j,a,i,rfl,_⟩
 .exact⟨none,0,rfl⟩
 .exact⟨_,a,rfl⟩
def ap.eO{c h j M M'}(a:ap M c h)(b:ap M' h j)(k:∀g∈M',g∈M\/c.heap.size<=g):ap M c j:=
 ⟨b.os.trans a.os,b.dt.trans a.dt,b.ds.trans a.ds,Yz a.aG b.aG,λi e f=>(b.ak i (Yr e a.aG) (λl=>by
  rcases k i l with d|d
  .exact f d
  .omega)).trans (a.ak i e f)⟩
def Ad.a3(d:Ad)(a:List Nat):Ad:={ d with X:=a++d.X }
theorem IX(d:Ad)(a:List Nat):pW (d.a3 a) d:=⟨rfl,rfl,rfl,rfl⟩
def Rd.j7{d:Ad}{e f l c}(g:d.R∈d.X/\d.S∈d.X/\d.N∈d.X/\d.P∈d.X)(a:Rd (d.a3 e) f l c):Rd d f l c:=
 ⟨a.me,a.sc,a.nm.ca (λ_ b=>Ym _ b),g,λh b=>a.bn h (Ym _ b),a.pr,a.np,a.gl,a.de,a.bm⟩
def Rd.eO{d s f r l c k m M}(e:Rd d f r c)(o:pW s d)(n:Rd s f l k)(p:ap M k m)(g:∀a∈M,c.heap.size<=a/\a∈s.X):Rd s f l m:=by
 obtain⟨w,x,y,z⟩:=e.lt;obtain⟨⟨a,h⟩,⟨_,_,i⟩,⟨_,_,j⟩⟩:=e.gl;have h:=iI h;have i:=iI i;have j:=iI j;obtain⟨q,t,u,v⟩:=o;refine n.ae p (λa b=>(g a b).2) ?_ ?_ ?_ ?_ ?_ ?_ ?_<;>(intro b;have:=(g _ b).1;omega)
def aC{c:Zw}{a i:Nat}{v}(b:c.heap[a]?=some (.cells x T))(d:x[i]?=some v):c.cell? (Zd a i)=some v:=by
 simp[World.cell?,b,d]
def aE{c:Zw}{a:Nat}(b:c.heap[a]?=some (.cells x T))(i:Nat):c.cell? (Zd a i)=x[i]?:=by simp[World.cell?,b]
def bl{c:Zw}{a:Nat}(b:c.heap[a]?=some (.cells x T)):∀i,c.frozen? ⟨a,i,none⟩=false:=by
 intro i;simp[World.frozen?,b]
section
variable {w : Type} {M F N X X' : List Nat} {d s y : Ad} {f : Za} {J : w -> Zw -> Prop} {t t' : w} {l q r : St} {L L' : List Th} {H z : List (Nat × Obj)} {c w' h : Zw} {a a' : Th} {i : Nat}
def Th.At.ae(b:a.At c)(g:ap M c w')(f:∀e,a.aH=some e->e ∉ M):a.At w':=by
 cases a with
 |obj d j=>exact(g.ak d (ay b) (f d rfl)).trans b
 |row h k v i l=>exact bQ b g f
theorem Th.At.lt(e:a.At c):∀b,a.aH=some b->b<c.heap.size:=by
 intro b d;cases a with
 |obj f i=>simp[Th.aH]at d;subst d;exact ay e
 |row g j v h k=>exact(lI e d).2
structure ey(M:List Nat)(L:List Th)(h c:Zw):Prop where
 fr:ap M h c
 y:∀a∈L,a.At c
 bX:∀a∈L,∀b,a.aH=some b->h.heap.size<=b
 cd:∀(i j:Nat) (a b:Th),i≠j->L[i]?=some a->L[j]?=some b->∀k,a.aH=some k->b.aH≠some k
def ey.A(e:ey M L h c)(g:Obj):ey M (.obj c.heap.size g::L) h (c.alloc g):=by
 have o:ap [] c (c.alloc g):=(ar [] c).A g;refine⟨e.fr.A g,?_,?_,?_⟩
 .intro a b;rcases Yg.1 b with rfl|b
  .exact be rfl
  .exact(e.y a b).ae o Zq
 .intro a b j d;rcases Yg.1 b with rfl|b
  .simp[Th.aH]at d;subst d;exact e.fr.aG
  .exact e.bX a b j d
 .intro i f a j m b d n k l;cases i with
  |zero=>
   cases f with
   |zero=>exact m rfl
   |succ f=>
    simp at b d;subst b;simp[Th.aH]at k;subst k;exact absurd ((e.y j (Yh d)).lt _ l) Zm
  |succ i=>
   cases f with
   |zero=>
    simp at b d;subst d;simp[Th.aH]at l;subst l;exact absurd ((e.y a (Yh b)).lt _ k) Zm
   |succ f=>exact e.cd i f a j Zm (by simpa using b) (by simpa using d) n k l
def ey.b6(f:ey M L h c)(n:L[i]?=some a)(x:ap N c w')(v:∀b∈N,a.aH=some b)(D:a'.At w')(s:∀b,a'.aH=some b->a.aH=some b\/c.heap.size<=b):ey M (L.set i a') h w':=by
 have t:=(YB.1 n).1;have y:=Yh n;have z:∀d∈L.set i a',d=a'\/∃k,k≠i/\L[k]?=some d:=by
  intro d e;obtain⟨k,j⟩:=List.getElem?_of_mem e;rw[YP]at j;split at j
  .simp[t]at j;exact Y8 j.symm
  .rename_i g;exact Ya ⟨k,λB=>g B.symm,j⟩
 refine⟨f.fr.eO x (λb m=>Ya (f.bX a y b (v b m))),?_,?_,?_⟩
 .intro d e;rcases z d e with rfl|⟨k,F,j⟩
  .exact D
  .exact(f.y d (Yh j)).ae x λb m E=>f.cd k i d a F j n b m (v b E)
 .intro d e q w;rcases z d e with rfl|⟨k,_,j⟩
  .rcases s q w with g|g
   .exact f.bX a y q g
   .exact Yz f.fr.aG g
  .exact f.bX d (Yh j) q w
 .intro k A d r p e l b m o;rw[YP]at e l;split at e
  .rename_i u;subst u;simp[t]at e;subst e;rw[Y2 p]at l;rcases s b m with g|g
   .exact f.cd i A a r p n l b g o
   .exact absurd ((f.y r (Yh l)).lt b o) Zm
  .split at l
   .rename_i u C;subst C;simp[t]at l;subst l;rcases s b o with g|g
    .exact f.cd k i d a p e n b m g
    .exact absurd ((f.y d (Yh e)).lt b m) Zm
   .exact f.cd k A d r p e l b m o
def ey.au(e:ey M (a::L) h c):ey M L h c:=⟨e.fr,λb d=>e.y b (Y5 _ d),λb d=>e.bX b (Y5 _ d),λi j b f k d g=>e.cd (i+1) (j+1) b f Zm (by simpa using d) (by simpa using g)⟩
def dY(L:List Th):List Nat:=L.filterMap Th.aH
def mW{b:Nat}:b∈dY L↔∃a∈L,a.aH=some b:=List.mem_filterMap
def dF.g1(a:dF X H c)(h:ap N c w')(f:∀l∈N,l∈X)(g:∀e∈X',e∈X\/c.heap.size<=e):dF X' H w':=λm j=>by
 obtain⟨b,d⟩:=a m j;refine⟨(h.ak _ (ay b) λi=>d (f _ i)).trans b,λk=>?_⟩;have:=ay b;rcases g _ k with a|a
 .exact d a
 .omega
def Rd.g1(i:Rd d f r h)(o:Rd s f l c)(p:pW s d)(w:pW y d)(k:ap N c w')(j:∀g∈N,h.heap.size<=g/\g∈s.X)(x:∀b∈y.X,b∈s.X\/c.heap.size<=b)(z:∀b∈y.X,b<w'.heap.size)(e:∀b∈d.X,b∈y.X):Rd y f l w':=by
 have a:=i.eO p o k j;obtain⟨M,S,G,J,X⟩:=d;obtain⟨O,R,H,K,a1⟩:=s;obtain⟨P,a0,I,L,a2⟩:=y;obtain⟨rfl,rfl,rfl,rfl⟩:=p;obtain⟨rfl,rfl,rfl,rfl⟩:=w;obtain⟨A,B,C,D⟩:=i.cD;refine⟨a.me,a.sc,?_,⟨e _ A,e _ B,e _ C,e _ D⟩,z,a.pr,a.np,a.gl,a.de,a.bm⟩;obtain⟨E,v,F,q,t,n,u⟩:=o.nm;exact⟨E,v,F,q.g1 k (λg m=>(j g m).2) x,t,(k.ak _ (ay n) (λm=>by have:=(j _ m).1;have:=i.lt.2.2.1;simp only at *;omega)).trans n,u⟩
structure bF(M F:List Nat)(d:Ad)(f:Za)(J:w->Zw->Prop)(t:w)(L:List Th)(H:Zo)(l:St)(h c:Zw):Prop where
 cV:∃r,Rd d f r h
 rd:Rd (d.a3 (dY L)) f l c
 bS:ey M L h c
 da:dF (d.a3 (dY L)).X H c
 j:J t c
 st:∀{t:w} {u u':Zw} {N:List Nat},J t u->ap N u u'->(∀m∈N,m ∉ F)->J t u'
 ex:∀m∈M++F,m∈d.X
def bF.kp(a:bF M F d f J t L H l h c):ap M h c:=a.bS.fr
def bF.call(b:bF M F d f J t L H l h c)(j:ap N c w')(u:Rd (d.a3 (dY L)) f q w')(s:J t' w')(k:∀e∈N,e∈M):bF M F d f J t' L H q h w':=by
 obtain⟨r,o⟩:=b.cV;have m:=λe g=>b.ex e (Yf _ (k e g));refine⟨b.cV,u,⟨b.kp.u (j.aZ k),λa n=>(b.bS.y a n).ae j λi p g=>?_,b.bS.bX,b.bS.cd⟩,b.da.ae j λe g=>Ym _ (m e g),s,b.st,b.ex⟩;have:=o.bn i (m i g);have:=b.bS.bX a n i p;omega
def bF.ae(a:bF M F d f J t L H l h c)(b:ap [] c w'):bF M F d f J t L H l h w':=a.call b (a.rd.ae b Zq Zq Zq Zq Zq Zq Zq Zq) (a.st a.j b Zq) Zq
theorem bF.ag(a:bF M F d f J t L H l h c):bF M F d f J t L H l h c.drew:=a.ae (ar [] c).ag
def bF.g1(g:bF M F d f J t L H l h c)(s:ap N c w')(w:∀b∈N,∃a∈L,a.aH=some b)(o:ey M L' h w')(x:∀u∈dY L',u∈dY L\/c.heap.size<=u):bF M F d f J t L' H l h w':=by
 obtain⟨r,p⟩:=g.cV;have q:∀b∈N,h.heap.size<=b/\b∈(d.a3 (dY L)).X:=λb k=>by
  obtain⟨a,n,e⟩:=w b k;exact⟨g.bS.bX a n b e,Yf _ (mW.2 ⟨a,n,e⟩)⟩
 have v:∀i∈(d.a3 (dY L')).X,i∈(d.a3 (dY L)).X\/c.heap.size<=i:=λi m=>by
  rcases Yn.1 m with e|e
  .exact(x i e).imp (Yf _) id
  .exact Y8 (Ym _ e)
 refine⟨g.cV,p.g1 g.rd (IX d _) (IX d _) s q v (λi m=>?_) (λi m=>Ym _ m),o,g.da.g1 s (λb k=>(q b k).2) v,g.st g.j s λb k hF=>?_,g.st,g.ex⟩
 .rcases Yn.1 m with e|e
  .obtain⟨a,n,e⟩:=mW.1 e;exact(o.y a n).lt _ e
  .exact Yr (p.bn i e) o.fr.aG
 .have:=p.bn b (g.ex b (Ym _ hF));have:=(q b k).1;omega
def bF.A(e:bF M F d f J t L H l h c)(a:Obj):bF M F d f J t (.obj c.heap.size a::L) H l h (c.alloc a):=
 e.g1 ((ar [] c).A a) Zq (e.bS.A a) λg b=>by
  rcases Yg.1 b with rfl|b
  .exact Ya (Y4 _)
  .exact Y8 b
theorem vm(b:Rd d f l c)(h:dF d.X H c)(j:J t c)(k:∀{t:w} {e g:Zw} {N:List Nat},J t e->ap N e g->(∀a∈N,a ∉ F)->J t g)(i:∀a∈M++F,a∈d.X):bF M F d f J t [] H l c c:=
 ⟨⟨_,b⟩,b,⟨ar M c,Zq,Zq,Zq⟩,h,j,k,i⟩
def yI(M:List Nat)(a:Rd d f l c)(b:∀g∈M++[],g∈d.X:=by simp[Rd.cD, *]):bF M [] d f (λ(_:Unit) _=>True) () [] [] l c c:=vm a (by intro h e;cases e) trivial (λ_ _ _=>trivial) b
def yH(a:Rd d f l c):bF [d.R,d.S,d.N] [] d f (λ(_:Unit) _=>True) () [] [] l c c:=yI _ a (by simp[a.cD])
def bF.b6(o:bF M F d f J t L H l h c)(g:L[i]?=some a)(n:ap N c w')(k:∀b∈N,a.aH=some b)(s:a'.At w')(m:∀b,a'.aH=some b->a.aH=some b\/c.heap.size<=b):bF M F d f J t (L.set i a') H l h w':=
 o.g1 n (λb u=>⟨a,Yh g,k b u⟩) (o.bS.b6 g n k s m) λp v=>by
  obtain⟨q,e,j⟩:=mW.1 v;rcases List.mem_or_eq_of_mem_set e with e|rfl
  .exact Y8 (mW.2 ⟨q,e,j⟩)
  .exact(m p j).imp (λr=>mW.2 ⟨a,Yh g,r⟩) id
theorem bF.aq{b j}(g:bF M F d f J t L H l h c)(e:L[i]?=some (.obj b (.cells x T)))(v:Zv):bF M F d f J t (L.set i (.obj b (.cells (x.set! j v) T))) H l h (c.setCell ⟨b,j,none⟩ v):=
 g.b6 e ((ar [b] c).a6 (p:=⟨b,j,none⟩) Zq v) (λk a=>by simp at a;rw[a];rfl) (by have:=g.bS.y _ (Yh e);exact ci this v) (λk a=>Y8 a)
def bF.au(b:bF M F d f J t (a::L) H l h c):bF M F d f J t L H l h c:=b.g1 (ar [] c) Zq b.bS.au λk i=>by
 obtain⟨e,j,g⟩:=mW.1 i;exact Y8 (mW.2 ⟨e,Y5 _ j,g⟩)
def bF.c6{e}{o:Obj}(b:bF M F d f J t (.obj e o::L) H l h c):bF M F d f J t L ((e,o)::H) l h c:=by
 have i:=b.au;refine { i with da:=λs g=>?_ };rcases Yg.1 g with rfl|g
 .refine⟨b.bS.y _ Yb,λp=>?_⟩;rcases Yn.1 p with a|a
  .obtain⟨j,m,a⟩:=mW.1 a;obtain⟨q,n⟩:=List.getElem?_of_mem m;exact b.bS.cd 0 (q+1) _ j Zm rfl (by simpa using n) e rfl a
  .obtain⟨r,k⟩:=b.cV;have:=k.bn _ a;have:=b.bS.bX _ Yb e rfl;simp only at *
   omega
 .exact i.da s g
def bF.th(e:bF M F d f J t L H l h c)(b:L[i]?=some a):a.At c:=e.bS.y _ (Yh b)
def FO{c:Nat}(j:L[i]?=some a)(h:∀d,a'.aH=some d->a.aH=some d)(g:c∈dY (L.set i a')):c∈dY L:=by
 obtain⟨f,b,e⟩:=mW.1 g;rcases List.mem_or_eq_of_mem_set b with b|rfl
 .exact mW.2 ⟨f,b,e⟩
 .exact mW.2 ⟨a,Yh j,h _ e⟩
def Rd.cs{e g:List Nat}(k:d.R∈d.X/\d.S∈d.X/\d.N∈d.X/\d.P∈d.X)(a:Rd (d.a3 e) f l c)(j:∀b∈g,b∈e):Rd (d.a3 g) f l c:=by
 have i:∀b∈g++d.X,b∈e++d.X:=λb h=>(Yn.1 h).elim (λa=>Yf _ (j b a)) (Ym _);obtain⟨m,n,o,p⟩:=k;exact⟨a.me,a.sc,a.nm.ca i,⟨Ym _ m,Ym _ n,Ym _ o,Ym _ p⟩,λb h=>a.bn b (i b h),a.pr,a.np,a.gl,a.de,a.bm⟩
def Ha{d}{c:Nat}(f:L[i]?=some a)(b:(L.set i a')[c]?=some d):(c=i/\d=a')\/(c≠i/\L[c]?=some d):=by
 rw[YP]at b;split at b
 .rename_i e;simp[(YB.1 f).1]at b;exact Y8 ⟨e.symm,b.symm⟩
 .rename_i e;exact Ya ⟨λg=>e g.symm,b⟩
def bF.iP{I:List Nat}(g:bF M F d f J t L H l h c)(x:ap N c w')(a5:Rd (d.a3 (dY L)) f q w')(u:∀(i:Nat) (a':Th),L'[i]?=some a'->∃a,L[i]?=some a/\(∀m,a'.aH=some m->a.aH=some m)/\(a'.At w'\/i ∉ I/\a'=a))(D:∀b∈N,b∈M/\b ∉ F\/∃i∈I,∃a,L[i]?=some a/\a.aH=some b):bF M F d f J t L' H q h w':=by
 obtain⟨r,C⟩:=g.cV;have E:∀b∈M++F,b<h.heap.size:=λb j=>C.bn b (g.ex b j);have G:∀b∈dY L',b∈dY L:=λb j=>by
  obtain⟨n,p,e⟩:=mW.1 j;obtain⟨o,v⟩:=List.getElem?_of_mem p;obtain⟨a,k,s,-⟩:=u o n v;exact mW.2 ⟨a,Yh k,s _ e⟩
 have A:∀b∈N,b∈M/\b ∉ F\/h.heap.size<=b/\b∈dY L:=λb j=>(D b j).imp id λ⟨i,_,a,k,e⟩=>⟨g.bS.bX a (Yh k) b e,mW.2 ⟨a,Yh k,e⟩⟩;refine⟨g.cV,a5.cs C.cD G,⟨g.kp.eO x λb j=>(A b j).imp And.left And.left,?_,?_,?_⟩,(g.da.ae x λb j=>?_).ca λb j=>?_,g.st g.j x λb j hF=>?_,g.st,g.ex⟩
 .intro n p;obtain⟨o,v⟩:=List.getElem?_of_mem p;obtain⟨a,k,s,e|⟨R,rfl⟩⟩:=u o n v
  .exact e
  .refine(g.bS.y n (Yh k)).ae x λm w j=>?_;have:=g.bS.bX n (Yh k) m w;rcases D m j with e|⟨i,a3,y,z,e⟩
   .have:=E m (Yf _ e.1);omega
   .exact g.bS.cd o i n y (λP=>R (P▸a3)) k z m w e
 .intro n p B a1;obtain⟨o,v⟩:=List.getElem?_of_mem p;obtain⟨a,k,s,-⟩:=u o n v;exact g.bS.bX a (Yh k) B (s B a1)
 .intro o K n y a4 p z m w a2;obtain⟨a,k,s,-⟩:=u o n p;obtain⟨O,S,a0,-⟩:=u K y z;exact g.bS.cd o K a O a4 k S m (s m w) (a0 m a2)
 .exact(A b j).elim (λe=>Ym _ (g.ex b (Yf _ e.1))) λe=>Yf _ e.2
 .exact(Yn.1 j).elim (λe=>Yf _ (G b e)) (Ym _)
 .have:=E b (Ym _ hF);rcases A b j with e|e
  .exact e.2 hF
  .omega
def bF.f4(x:bF M F d f J t L H l h c)(j:L[i]?=some a)(u:ap N c w')(v:Rd (d.a3 (dY L)) f q w')(p:a'.At w')(r:∀m,a'.aH=some m->a.aH=some m)(o:∀e∈N,e∈M/\e ∉ F\/a.aH=some e):bF M F d f J t (L.set i a') H q h w':=
 x.iP (I:=[i]) u v (λy n s=>(Ha j s).elim (λ⟨g,k⟩=>⟨a,g▸j,k▸r,Y8 (k▸p)⟩) λ⟨b,g⟩=>⟨n,g,λ_ b=>b,Ya ⟨by simpa using b,rfl⟩⟩) λe w=>(o e w).imp id λb=>⟨i,Zq,a,j,b⟩
def bF.iC(a:bF M F d f J t L H l h c)(e:dF (d.a3 (dY L)).X z c):bF M F d f J t L (z++H) l h c:={ a with da:=λb g=>(Yn.1 g).elim (e b) (a.da b) }
def bF.nil(j:bF M F d f J t L H l h c)(g:TypeId)(s:Nat):bF M F d f J t (.row g s (.slice none 0 0) 0 []::L) H l h c:=
 j.g1 (ar [] c) Zq ⟨j.kp,λa e=>(Yg.1 e).elim (λg=>g▸⟨Zq,Y8 ⟨rfl,rfl⟩⟩) (j.bS.y a),λa e k b=>(Yg.1 e).elim (λg=>by subst g;cases b) (λo=>j.bS.bX a o k b),λi q a k p e b r m n=>by
  cases i<;>cases q<;>simp at e b
  .exact p rfl
  .subst e;cases m
  .subst b;cases n
  .exact j.bS.cd _ _ a k Zm e b r m n⟩ λk b=>Y8 b
def kV{b}(a:c.grownBy w' b):ap b.toList c w':=
 ⟨a.os,a.tape,a.output,a.size,λg e f=>a.block g e (λd=>f (by rw[<-d];simp))⟩
def bF.a4{b}{j u e a m k:Nat}{v w o}(s:bF M F d f J t L H l h c)(q:L[i]?=some (.row b j v u w))(r:w'.ownsRow 0 b j (.slice (some ⟨a,0,none⟩) e m) e o)(g:c.grownBy w' v.ownBlock)(p:v.ownBlock=some a\/a=k)(y:c.heap.size=k):bF M F d f J t (L.set i (.row b j (.slice (some ⟨a,0,none⟩) e m) e o)) H l h w':=
 s.b6 q (kV g) (λa g=>by simpa[Th.aH]using g) r λx n=>by
  simp only[Th.aH,Value.ownBlock,Yu]at n ⊢;subst n;exact p.imp id (λb=>by omega)
def bF.gL{a o e v}{m:Zl}(k:bF M F d f J t (.row a o v e m::L) H l h c)(w:e<=1000):∃z,bF M F d f J t L z l h c/\fk z a v e m/\∀y∈H,y∈z:=by
 have b:c.ownsRow 0 a o v e m:=k.th (i:=0) rfl;obtain⟨n,⟨rfl,rfl⟩|⟨j,p,g,rfl,-,q,r,-,-,s⟩⟩:=b
 .exact⟨H,k.au,Y8 ⟨rfl,rfl,Yv.1 (by simpa using n)⟩,λ_ b=>b⟩
 .have x:bF M F d f J t (.obj j (.cells g a)::L) H l h c:=(k.b6 (i:=0) (a':=.obj j (.cells g a)) rfl (ar [] c) Zq q λA u=>Y8 u);exact⟨_,x.c6,Ya ⟨j,p,g,rfl,⟨r,w⟩,Yb,by rw[n];exact s⟩,λ_ b=>Y5 _ b⟩
theorem bF.fin(a:bF M F d f J t L H l h c):Rd d f l c:=by
 obtain⟨r,b⟩:=a.cV;exact a.rd.j7 b.cD
theorem bF.br(b:bF M F d f J t L H l h c):dF d.X H c:=b.da.ca λ_ a=>Ym _ a
def bF.bV{b}(j:bF M F d f J t L H l h c)(g:L[i]?=some a)(e:a.aH=some b):ib (d.a3 (dY L)) b:=by
 obtain⟨r,k⟩:=j.cV;obtain⟨m,n,o,p⟩:=k.lt;have:=j.bS.bX a (Yh g) b e;refine⟨Yf _ (mW.2 ⟨a,Yh g,e⟩),?_,?_,?_,?_⟩<;>simp only[Ad.a3]<;>omega
def bF.i6(e:bF M F d f J t L H l h c)(j:L[i]?=some a)(k:ap N c w')(g:∀b∈N,b∈M/\b ∉ F\/a.aH=some b):ap M h w':=e.kp.eO k λb m=>(g b m).imp And.left (e.bS.bX a (Yh j) b)
def wn{Q:Ending->Zw->Prop}{b}{a:Array Zv}{c}(d:Q (.panicked b) c):bodyPost prog Tryz.f121 Q (.panic b) { tmps:=a,defers:=[] } c:=bM d
abbrev hb(a:Nat):Ending:=.panicked [{ v:=.iface 143 (Zp a),recovered:=false }]
def ya{s x:Type}{p o:Except Mar.ac x}{n}{v:s->St->Except Mar.ac x}{w e}{Q:Ending->Zw->Prop}
  (k:af (bF M F d f J t L H l h c)) (u:af (p=o)) (y:Rd (d.a3 (dY L)) f l c->Calls prog e args c (fH N (d.a3 (dY L)) f c n w))
  (ok:∀a q w',af (n=.ok (a,q))->af (p=v a q)->af (bF M F d f J t L H q h w')->Q (.returned (w a)) w')
  (z:∀a q,n=.ok (a,q)->o=v a q:=by first|exact λ_ _ b=>bK b|exact λ_ _ b=>dZ (gF b))
  (A:∀e,n=.error e->o=.error e:=by first|exact λ_ b=>dv b|exact λ_ b=>fc (im b))
  (hN:∀i∈N,i∈M/\i ∉ F:=by simp[Ad.a3, *])
  (bad:∀{m:Nat} {w':Zw},ap M h w'/\(∃e,p=.error e/\eH h e.no e.y (hb m) w')->Q (hb m) w':=by first|exact λb=>bM ⟨b.1,Ya b.2⟩|exact λb=>wn ⟨b.1,Ya b.2⟩):Calls prog e args c Q:=by
 refine(y k.i.rd).mono ?_;rintro E w' ⟨r,⟨a,q,g,rfl,D⟩|⟨e,g,m,B,rfl,C⟩⟩
 .exact ok a q w' (U g) (U (u.i.trans (z _ _ g))) (U (k.i.call r D (k.i.st k.i.j r λi g=>(hN i g).2) λi g=>(hN i g).1))
 .exact bad ⟨k.i.kp.u (r.aZ λi g=>(hN i g).1),e,u.i.trans (A _ g),m,Yz k.i.kp.aG B,rfl,C⟩
def cM{k r:Type}{i g:Except Mar.ac r}{j}{m:k->St->Except Mar.ac r}{n e}{Q:Ending->Zw->Prop}
  (z:af (bF M F d f J t L H l h c)) (u:af (i=g)) (s:Rd (d.a3 (dY L)) f l c->Calls prog e args c (fH N (d.a3 (dY L)) f c j n))
  (ok:∀a q w',af (i=m a q)->af (bF M F d f J t L H q h w')->Q (.returned (n a)) w')
  (w:∀a q,j=.ok (a,q)->g=m a q:=by first|exact λ_ _ b=>bK b|exact λ_ _ b=>dZ (gF b))
  (x:∀e,j=.error e->g=.error e:=by first|exact λ_ b=>dv b|exact λ_ b=>fc (im b))
  (y:∀p∈N,p∈M/\p ∉ F:=by simp[Ad.a3, *])
  (v:∀{o:Nat} {w':Zw},ap M h w'/\(∃e,i=.error e/\eH h e.no e.y (hb o) w')->Q (hb o) w':=by first|exact λb=>bM ⟨b.1,Ya b.2⟩|exact λb=>wn ⟨b.1,Ya b.2⟩):Calls prog e args c Q:=ya z u s (λa q w' _=>ok a q w') w x y v
def Hf{p y:Type}{o n:Except Mar.ac y}{m}{s:p->w->St->Except Mar.ac y}{u b}{Q:Ending->Zw->Prop}
  (g:af (bF M F d f J t L H l h c)) (r:af (o=n)) (z:Rd (d.a3 (dY L)) f l c->J t c->Calls prog b args c (lW N (d.a3 (dY L)) f c m u J))
  (ok:∀a t' q w',af (m=.ok (a,t',q))->af (o=s a t' q)->af (bF M F d f J t' L H q h w')->Q (.returned (u a)) w')
  (B:∀a t' q,m=.ok (a,t',q)->n=s a t' q:=by exact λ_ _ _ e=>dZ e)
  (C:∀b,m=.error b->n=.error b:=by exact λ_ e=>fc e)
  (v:∀K∈N,K∈M:=by simp[Ad.a3, *])
  (A:∀{i:Nat} {w':Zw},ap M h w'/\(∃b,o=.error b/\eH h b.no b.y (hb i) w')->Q (hb i) w':=by first|exact λe=>bM ⟨e.1,Ya e.2⟩|exact λe=>wn ⟨e.1,Ya e.2⟩):Calls prog b args c Q:=by
 refine(z g.i.rd g.i.j).mono ?_;rintro O w' ⟨x,⟨a,t',q,k,rfl,I,G⟩|⟨b,k,i,D,rfl,E⟩⟩
 .exact ok a t' q w' (U k) (U (r.i.trans (B _ _ _ k))) (U (g.i.call x I G v))
 .exact A ⟨g.i.kp.u (x.aZ v),b,r.i.trans (C _ k),i,Yz g.i.kp.aG D,rfl,E⟩
def tu{k p:Type}{i g:Except Mar.ac p}{j}{m:k->w->St->Except Mar.ac p}{n b}{Q:Ending->Zw->Prop}
  (z:af (bF M F d f J t L H l h c)) (s:af (i=g)) (r:Rd (d.a3 (dY L)) f l c->J t c->Calls prog b args c (lW N (d.a3 (dY L)) f c j n J))
  (ok:∀a t' q w',af (i=m a t' q)->af (bF M F d f J t' L H q h w')->Q (.returned (n a)) w')
  (v:∀a t' q,j=.ok (a,t',q)->g=m a t' q:=by exact λ_ _ _ e=>dZ e)
  (x:∀b,j=.error b->g=.error b:=by exact λ_ e=>fc e)
  (y:∀A∈N,A∈M:=by simp[Ad.a3, *])
  (u:∀{o:Nat} {w':Zw},ap M h w'/\(∃b,i=.error b/\eH h b.no b.y (hb o) w')->Q (hb o) w':=by first|exact λe=>bM ⟨e.1,Ya e.2⟩|exact λe=>wn ⟨e.1,Ya e.2⟩):Calls prog b args c Q:=Hf z s r (λa t' q w' _=>ok a t' q w') v x y u
def It{b j:Type}(N:List Nat)(d:Ad)(f:Za)(c:Zw)(o:Nat)(i:Except Mar.ac j)(n:b->j)(m:b->Zv)(p:b->St)(S:b->Obj->Prop)(l:b->Prop)(k:b->Zo)(g:Ending)(w':Zw):Prop:=
 ap N c w'/\((∃a h,i=.ok (n a)/\g=.returned (m a)/\Rd d f (p a) w'/\w'.heap[o]?=some h/\S a h/\l a/\dF d.X (k a) w')\/(∃e,i=.error e/\eH c e.no e.y g w'))
def st4{k K O:Type}{u s:Except Mar.ac O}{q:Except Mar.ac K}{v:k->K}{C:k->Zv}{I:k->St}{S:k->Obj->Prop}{B:k->Prop}{y:k->Zo}{A:k->Except Mar.ac O}{e g:Nat}{a8:Obj}{Q:Ending->Zw->Prop}(i:Nat)
  (n:af (bF M F d f J t L H l h c)) (z:af (u=s)) (P:Rd (d.a3 (dY L)) f l c->ib (d.a3 (dY L)) g->Calls prog e args c (It N (d.a3 (dY L)) f c g q v C I S B y))
  (ok:∀b j w',S b j->B b->af (q=.ok (v b))->af (u=A b)->af (bF M F d f J t (L.set i (.obj g j)) (y b++H) (I b) h w')->Q (.returned (C b)) w')
  (a0:∀b,q=.ok (v b)->s=A b) (a1:∀e,q=.error e->s=.error e)
  (o:L[i]?=some (.obj g a8):=by rfl) (w:∀r∈N,r∈M/\r ∉ F\/some g=some r:=by simp[Ad.a3, *])
  (R:∀{p:Nat} {w':Zw},ap M h w'/\(∃e,u=.error e/\eH h e.no e.y (hb p) w')->Q (hb p) w':=by first|exact λa=>bM ⟨a.1,Ya a.2⟩|exact λa=>wn ⟨a.1,Ya a.2⟩):Calls prog e args c Q:=by
 refine(P n.i.rd (n.i.bV o rfl)).mono ?_;rintro a9 w' ⟨x,⟨b,j,m,rfl,E,D,a3,a2,a6⟩|⟨e,m,p,a4,rfl,a5⟩⟩
 .exact ok b j w' a3 a2 (U m) (U (z.i.trans (a0 _ m))) (U { (n.i.f4 o x E (a':=.obj g j) D (λ_ a=>a) w)with da:=λG a7=>(Yn.1 a7).elim (λa=>(a6.ca (X':=(d.a3 (dY (L.set i (.obj g j)))).X) λr m=>(Yn.1 m).elim (λa=>Yf _ (FO (a':=.obj g j) o (λ_ a=>a) a)) (Ym _)) G a) ((n.i.f4 o x E (a':=.obj g j) D (λ_ a=>a) w).da G) })
 .exact R ⟨n.i.i6 o x w,e,z.i.trans (a1 _ m),p,Yz n.i.kp.aG a4,rfl,a5⟩
end
end
section
variable {L i c:Nat}
section
variable {d : Program} {a : Array Oper} {Q : Exit -> Act -> Zw -> Prop} {b : Region.Mode} {S : Zw -> Prop}
abbrev sF(d:Program)(a:Array Oper)(Q:Exit->Act->Zw->Prop)(L:Nat):Exit->Act->Zw->Prop:=λg b c=>match g with
 |.normal=>wpOp d a Q L (λe j=>Q .normal e j) b c
 |.exit i=>Q (.exit i) b c
 |.goto h=>Q (.goto h) b c
 |.ret=>Q .ret b c
 |.panic f=>Q (.panic f) b c
 |.outgrown=>Q .outgrown b c
def XX(b:LetsOut (sF d a Q L)):LetsOut Q:=b
def abY{e:Oper}{c:Act}{f:Zw}{g:Act->Zw->Prop}(b:e.wp d c f g (sF d a Q L)):e.wp d c f g Q:=by
 unfold Oper.wp at *
 generalize (execOp c.eval e).run d f=i at *
 cases i with
 |ok h j=>cases h<;>simp only[Oper.upon]at b ⊢<;>exact b
 |halt k j=>cases k<;>simp only[Oper.upon]at b ⊢<;>exact b
def ahM{e:Act}{f:Zw}{c:Act->Zw->Prop}(b:wpOp d a (sF d a Q L) i c e f):wpOp d a Q i c e f:=by
 unfold wpOp at *
 split
 .simp_all
 .rename_i l j;simp only[j]at b;split
  .rename_i k;simp only[k,if_true]at b
   rcases b with b|⟨g,h⟩
   .exact Y8 (abY b)
   .exact Ya ⟨g,XX h⟩
  simp_all
def ua(b:Region.Mode)(a:Array Oper):Bool:=(List.range a.size).all λc=>match a[c]? with
 |some e=>e.after.all λd=>!Region.binds b d||decide (d.on<c)
 |none=>true
def vF(b:Region.Mode)(a:Array Oper)(L:Nat):Bool:=(List.range L).all λc=>(List.range a.size).any λe=>match a[e]? with
 |some f=>f.after.any λd=>Region.binds b d&&d.on==c
 |none=>false
def Kb(f:ua b a=true){e:Oper}(i:a[c]?=some e){d:_}(h:d∈e.after)(g:Region.binds b d=true):d.on<c:=by
 grind [ua,Array.all_eq_true_iff_forall_mem]
def TU(f:vF b a L=true)(h:c<L):∃g:Nat,∃e:Oper,a[g]?=some e/\∃d∈e.after,Region.binds b d=true/\d.on=c:=by
 simp only[vF,List.all_eq_true,List.mem_range]at f;grind
def wI(b:Region.Mode)(a:Array Oper)(e:Array Bool):Prop:=
 ∀c f,a[c]?=some f->e.getD c false=true->∀d∈f.after,Region.binds b d=true->e.getD d.on false=true
theorem wI.cG{d:Array Bool}(g:wI b a d)(n:i∈Region.ready b a d):wI b a (d.setIfInBounds i true):=by
 intro c m l e f j h;refine getD_set_true ?_;by_cases k:i=c
 .grind [mem_ready]
 .rw[getD_set_ne false k]at e;exact g c m l e f j h
def OG(i:ua b a=true){d:Array Bool}(q:d.size=a.size):∀c,c<a.size->d.getD c true=false->Region.ready b a d≠[]:=by
 intro c;induction c using Nat.strongRecOn with
 |ind c r=>
  intro m k p;by_cases f:∀g,a[c]?=some g->∀e∈g.after,Region.binds b e=true->d.getD e.on false=true
  .have:c∈Region.ready b a d:=mem_ready.2 ⟨k,a[c],by simp,f _ (by simp)⟩;simp_all
  .simp only[Classical.not_forall]at f;obtain⟨g,l,e,j,h,o⟩:=f;have n:=Kb i l j h;grind
def Sg(l:ua b a=true)(u:a.size=L+1)(n:vF b a L=true){e:Array Bool}(z:e.size=a.size)(m:wI b a e)(r:L∈Region.ready b a e):∀f c,L-c=f->c<L->e.getD c false=true:=by
 intro f;induction f using Nat.strongRecOn with
 |ind f s=>
  intro c x o;obtain⟨d,t,g,k,i,h,j⟩:=TU n o;have p:=Kb l g i h;have w:=(Array.getElem?_eq_some_iff.1 g).1;rw[j]at p;by_cases q:d=L
  .subst q;obtain⟨_,A,y,v⟩:=mem_ready.1 r;grind
  .have:=s (L-d) (by omega) d rfl (by omega);rw[<-j];exact m d t g this k i h
def MW(g:ua b a=true)(f:a.size=L+1)(i:vF b a L=true){d:Array Bool}(n:d.size=a.size)(h:wI b a d)(m:L∈Region.ready b a d):Region.ready b a (d.setIfInBounds L true)=[]:=by
 cases o:Region.ready b a (d.setIfInBounds L true)with
 |nil=>rfl
 |cons c rest=>
  exfalso;have j:c∈Region.ready b a (d.setIfInBounds L true):=by simp_all
  obtain⟨e,q,l,_⟩:=mem_ready.1 j;have p:=(Array.getElem?_eq_some_iff.1 l).1;by_cases k:L=c
  .simp_all
  .rw[getD_set_ne true k]at e;have:=Sg g f i n h m (L-c) c rfl (by omega);simp_all
def ahI(m:ua b a=true)(s:a.size=L+1)(t:vF b a L=true):∀(j:Nat) (e:Array Bool) (l:Act) (o:Zw),
  e.size=a.size->wI b a e->e.getD L true=false->wpAnyH d b a (sF d a Q L) S j (e.setIfInBounds L true) l o->wpAny d b a Q (j+1) e l o:=by
 intro j;induction j with
 |zero=>
  intro e l o k n q h;refine⟨λc=>absurd c (OG m k L (by omega) q),λi f=>?_⟩;by_cases g:i=L
  .subst g;exact wpOp_mono (λp r c=>⟨MW m s t k n f,c⟩) h.2
  .have:=ready_mono f g;rw[h.1]at this;grind
 |succ j v=>
  intro e l o k n q h;refine⟨λc=>absurd c (OG m k L (by omega) q),λi f=>?_⟩;by_cases g:i=L
  .subst g;have u:=MW m s t k n f;refine wpOp_mono (λp r c=>⟨λ_=>c,?_⟩) (h.1 u);simp_all
  .refine wpOp_mono (λp r c=>?_) (ahM (h.2 i (ready_mono f g)));refine v (e.setIfInBounds i true) p r (by grind) (n.cG f) (by simp_all) ?_;rw[Array.setIfInBounds_comm _ _ g];exact c.2
def ac6(S:Zw->Prop){id:Nat}{e:Act}{b:Zw}(m:d.follows .mixedOrders=true)(f:a.size=L+1)(j:ua .any a=true)(k:vF .any a L=true)(i:S b.drew)
  (g:S b.drew->wpAnyH d .any a (sF d a Q L) S L ((Array.replicate (L+1) false).setIfInBounds L true) e b.drew):(Code.region id a true).wp d Q e b:=by
 refine wp_region_any m ?_;have h:=g i;rw[f];refine ahI j f k L _ e _ (by grind) ?_ (by simp) h;intro c o _ n;exfalso;rcases Yj c (L+1)with l|l;all_goals simp_all
def BL{f:Oper}{b:Act}{c:Zw}(i:a[L]?=some f)
  (g:∀e:Act->Zw->Prop,Shut (∀b c,Q .normal b c->e b c)->if Region.wanted f (yielded a b.tmps)=true then Oper.wp d f b c e Q else e (b.put f.dst undef) c) :
  sF d a Q L .normal b c:=wpOp_step i (λe h=>g e (λb c j=>h b c j))
def tk{f:Oper}{v:Zv}{l:Nat}{h:Array Bool}{c:Act}{e:Zw}(p:a[i]?=some f)(g:(Region.noSelect a&&Region.free b a h i&&(Region.ready b a h).contains i)=true)
  (n:∀k c e,Q (.panic k) (c.put f.dst v) e->Q (.panic k) c e) (q:Region.wanted f (yielded a c.tmps)=true) (o:S e) (r:∀j,S j->(execOp c.eval f).run d j=.ok (.value v) j)
  (m:wpAnyH d b a Q S l (h.setIfInBounds i true) (c.put f.dst v) e):wpAnyH d b a Q S (l+1) h c e:=by
 simp only[Bool.and_eq_true]at g;exact wpAnyH_take p g.1.1 g.1.2 g.2 n (Y8 ⟨q,r⟩) o m
def aih(c:Zl)(a:List Deferred)(b:Nat)(v:Zv):Act.put ⟨c.toArray,a⟩ (some b) v=⟨(c.set b v).toArray,a⟩:=by simp[Act.put]
def aii(a:Act)(v:Zv):Act.put a none v=a:=rfl
end
end
section
variable {h : Program} {c : Array Oper} {Q : Exit -> Act -> World -> Prop} {g : Region.Mode} {S : World -> Prop} {d : Nat} {j : List Nat} {e : Oper} {v : Value} {i : Nat} {f : Array Bool} {b : Act} {a : World}
def qX(_:List Nat)(a:Prop):Prop:=a
def bf(j:List Nat){a:Prop}(b:qX j a):a:=b
def bg{a:Prop}(b:a):qX [] a:=b
def tkd(q:c[d]?=some e)(p:(Region.noSelect c&&Region.free g c f d&&(Region.ready g c f).contains d)=true)(n:∀l b a,Q (.panic l) (b.put e.dst v) a->Q (.panic l) b a)(r:Region.wanted e (yielded c b.tmps)=true)(o:S a)(s:∀k,S k->(execOp b.eval e).run h k=.ok (.value v) k)(m:qX j (wpAnyH h g c Q S i (f.setIfInBounds d true) (b.put e.dst v) a)):qX (d::j) (wpAnyH h g c Q S (i+1) f b a):=tk q p n r o s m
def skd(p:c[d]?=some e)(k:(Region.noSelect c&&Region.free g c f d&&(Region.ready g c f).contains d)=true)(n:∀l b a,Q (.panic l) (b.put e.dst undef) a->Q (.panic l) b a)(q:Region.wanted e (yielded c b.tmps)=false)(o:S a)(m:qX j (wpAnyH h g c Q S i (f.setIfInBounds d true) (b.put e.dst undef) a)):qX (d::j) (wpAnyH h g c Q S (i+1) f b a):=by
 simp only[Bool.and_eq_true]at k;exact wpAnyH_take p k.1.1 k.1.2 k.2 n (Ya ⟨q,rfl⟩) o m
def rdy(d:Nat)(m:Region.ready g c f=[d])(l:c[d]?=some e)
  (k:∀j:Act->World->Prop,Shut (∀b a,S a->(S a->wpAnyH h g c Q S i (f.setIfInBounds d true) b a)->j b a)->if Region.wanted e (yielded c b.tmps)=true then Oper.wp h e b a j Q else j (b.put e.dst undef) a) :
  wpAnyH h g c Q S (i+1) f b a:=wpAnyH_ready m (by simp) (AllReadyH.cons l k AllReadyH.nil)
def UC{j:Nat}{d:Oper}(m:Region.ready g c f=[])(l:c[j]?=some d)
  (k:∀e:Act->World->Prop,Shut (∀b a,Q .normal b a->e b a)->if Region.wanted d (yielded c b.tmps)=true then Oper.wp h d b a e Q else e (b.put d.dst undef) a) :
  wpAnyH h g c (sF h c Q j) S i f b a:=wpAnyH_done m (BL l k) _
def bi{n:Prop}(k:qX j n)(s:c[d]?=some e:=by rfl)(r:(Region.noSelect c&&Region.free g c f d&&(Region.ready g c f).contains d)=true:=by kernel_rfl)(w:∀l,S l->(execOp b.eval e).run h l=.ok (.value v) l:=by intro a q;(try dsimp only at q);go_simp;(try with_reducible rfl))(o:∀m b a,Q (.panic m) (b.put e.dst v) a->Q (.panic m) b a:=by exact λ_ _ _ k=>k)(u:Region.wanted e (yielded c b.tmps)=true:=by kernel_rfl)(p:S a:=by assumption)(t:wpAnyH h g c Q S i (f.setIfInBounds d true) (b.put e.dst v) a=n:=by(try simp only[aih,aii,List.set]);rfl):qX (d::j) (wpAnyH h g c Q S (i+1) f b a):=tk s r o u p w (t▸k)
def pN{m:Prop}(d:Nat){e:Oper}(j:m)(r:c[d]?=some e:=by rfl)(q:(Region.noSelect c&&Region.free g c f d&&(Region.ready g c f).contains d)=true:=by kernel_rfl)(u:∀k,S k->(execOp b.eval e).run h k=.ok (.value v) k:=by intro a p;(try dsimp only at p);go_simp;(try with_reducible rfl))(n:∀l b a,Q (.panic l) (b.put e.dst v) a->Q (.panic l) b a:=by exact λ_ _ _ j=>j)(t:Region.wanted e (yielded c b.tmps)=true:=by kernel_rfl)(o:S a:=by assumption)(s:wpAnyH h g c Q S i (f.setIfInBounds d true) (b.put e.dst v) a=m:=by(try simp only[aih,aii,List.set]);rfl):wpAnyH h g c Q S (i+1) f b a:=tk r q n t o u (s▸j)
def skz{m:Prop}(k:qX j m)(q:c[d]?=some e:=by rfl)(p:(Region.noSelect c&&Region.free g c f d&&(Region.ready g c f).contains d)=true:=by kernel_rfl)(n:∀l b a,Q (.panic l) (b.put e.dst undef) a->Q (.panic l) b a:=by exact λ_ _ _ k=>k)(s:Region.wanted e (yielded c b.tmps)=false:=by kernel_rfl)(o:S a:=by assumption)(r:wpAnyH h g c Q S i (f.setIfInBounds d true) (b.put e.dst undef) a=m:=by(try simp only[aih,aii,List.set]);rfl):qX (d::j) (wpAnyH h g c Q S (i+1) f b a):=skd q p n s o (r▸k)
def bI(d:Nat){e:Oper}(k:∀j:Act->World->Prop,Shut (∀b a,S a->(S a->wpAnyH h g c Q S i (f.setIfInBounds d true) b a)->j b a)->if Region.wanted e (yielded c b.tmps)=true then Oper.wp h e b a j Q else j (b.put e.dst undef) a)(m:Region.ready g c f=[d]:=by kernel_rfl)(l:c[d]?=some e:=by rfl):wpAnyH h g c Q S (i+1) f b a:=rdy d m l k
def bL{j:Nat}{d:Oper}(k:∀e:Act->World->Prop,Shut (∀b a,Q .normal b a->e b a)->if Region.wanted d (yielded c b.tmps)=true then Oper.wp h d b a e Q else e (b.put d.dst undef) a)(m:Region.ready g c f=[]:=by kernel_rfl)(l:c[j]?=some d:=by rfl):wpAnyH h g c (sF h c Q j) S i f b a:=UC m l k
def bJ(S:World->Prop){id d:Nat}(g:S a.drew)(e:S a.drew->wpAnyH h .any c (sF h c Q d) S d ((Array.replicate (d+1) false).setIfInBounds d true) b a.drew)(k:h.follows .mixedOrders=true:=by kernel_rfl)(f:c.size=d+1:=by rfl)(i:ua .any c=true:=by kernel_rfl)(j:vF .any c d=true:=by kernel_rfl):(Code.region id c true).wp h Q b a:=ac6 S k f i j g e
def nz{a b:Prop}(d:b)(c:a=b:=by(try simp only[aih,aii,List.set]);rfl):a:=c▸d
end
section
variable {c:Ad}{w:Zw}{σ:St}{τ:Type}
structure fj(τ:Type) where
 f:Nat
 e5:Array Zv
 f6:Array Zv
 M:List Nat
 bs:Zo
 I:τ->Zw->Prop
 a9:Mar.aU->PX τ Unit
def fj.v(a:fj τ):Zv:=.func (.func a.f) a.e5 a.f6
structure sk{τ:Type}(C:fj τ)(c:Ad)(text:Za):Prop where
 d2:∀args W,(callFunc C.f args).run prog W=.ok (.enter C.f args) W
 fx:∀{t:τ} {w w':Zw} {M':List Nat},C.I t w->ap M' w w'->(∀m∈M',m ∉ C.M)->C.I t w'
 gn:c.S ∉ C.M
 ex:∀m∈C.M,m∈c.X
 call:∀{A':Ad} {σ:St} {t:τ} {W:Zw} (x:Mar.aU),pW A' c->(∀b∈c.X,b∈A'.X)->Rd A' text σ W->C.I t W->dF c.X C.bs W->
  Calls prog C.f (C.e5.push (dH x)++C.f6) W (lW C.M A' text W (C.a9 x t σ) uS C.I)
def Di{α:Type}(b a:Nat):PX τ α:=λ_ _=>.error ⟨b,a⟩
def name(c:Za)(b:fj τ):PX τ (Zb×Nat):=aQ (lift (next c)) λa=>if((a.w:Int)==1)then aQ (b.a9 a) λ_=>eJ (a.text,a.y)else Di 3 a.y
abbrev jB:Zb×Nat->Zv:=λa=>.agg #[.string ⟨a.1.toArray⟩,Y a.2]
def abq{a}(e:pW a c){b}(d:Rd a b σ w):Calls prog 118 #[Zp c.S] w (fH [c.S] a b w (next b σ) dH):=by
 have:=wl d;rw[e.2.1]at this;exact this
def uz{C:fj τ}{q:Za}{t:τ}(d:sk C c q)(g:Rd c q σ w)(a7:C.I t w)(a4:dF c.X C.bs w):Calls prog 185 #[Zp c.R,C.v] w (lW (c.S::C.M) c q w (name q C t σ) jB C.I):=by
 obtain⟨c6,c7,c8,c9,d0,d2⟩:=g.K;have d4:=g.lt.1;have d5:=g.lt.2.1;have b3:w.heap.size ∉ c.S::C.M:=by
  simp only[Yg,not_or];exact⟨Zm,λe=>by have:=g.bn _ (d.ex _ e);omega⟩
 have b2:w.heap.size ∉ [c.S]:=Zu;have B:=be (w:=w) (o:=.cells #[.string ⟨#[]⟩,Y 0] 160) rfl;have a0:=g.gV (.cells #[.string ⟨#[]⟩,Y 0] 160);have x:=(ar (c.S::C.M) w).A (.cells #[.string ⟨#[]⟩,Y 0] 160);have a8:=d.fx a7 (ef [] ((Below.refl w.heap.size w).alloc (Y4 _) (.cells #[.string ⟨#[]⟩,Y 0] 160))) Zq;have a5:=a4.ae (ef [] ((Below.refl w.heap.size w).alloc (Y4 _) (.cells #[.string ⟨#[]⟩,Y 0] 160))) Zq;have d1:=d.d2;show Calls prog 185 #[Zp c.R,.func (.func C.f) C.e5 C.f6] w _;go_in;go_wp21;refine(abq (rh c _) a0).mono ?_;rintro r f ⟨i,⟨b,e3,j,rfl,b4⟩|⟨A,j,z,E,rfl,s⟩⟩;rotate_left
 .exact bM (tM (x.u (i.aZ Zq)) x (fc (im j)) E s)
 have D:=(i.ak _ (ay B) b2).trans B;have h:=x.u (i.aZ (M':=c.S::C.M) Zq);have a9:=d.fx a8 i (by simp;exact d.gn);have a6:=a5.ae i (by simp;exact g.cD.2.1);dsimp only[dH];go_wp2_with (first|(go_at_call 70;refine(fp _ _ _).mono ?_;rintro r d7 ⟨rfl,rfl⟩))
 .have u:((b.w:Int)==1)=false:=Zu;refine bM (tM (M':=c.S::C.M) (w1:=f) (f:=⟨3,b.y⟩) ((h.A _).A _) h ((dZ (gF j)).trans ?_) Zm (be Zq));rw[u];rfl
 .have u:((b.w:Int)==1)=true:=Zu;have l:=(Below.refl f.heap.size f).alloc (Y4 _) (.cells #[Y b.w,Zs b.text,Y b.n,Y b.y] 154);have F:=be (w:=f) (o:=.cells #[Y b.w,Zs b.text,Y b.n,Y b.y] 154) rfl;have b7:w.heap.size<f.heap.size:=ay D;refine(d.call b (rh c _) (λz a1=>Y5 _ a1) (b4.az l) (d.fx a9 (ef [] l) Zq) (a6.ae (ef [] l) Zq)).mono ?_;rintro r d8 ⟨m,⟨d6,c4,e4,G,rfl,b5,b0⟩|⟨A,G,z,E,rfl,s⟩⟩;rotate_left
  .refine bM (tM (M':=c.S::C.M) (w1:=f) ((h.A _).u (m.aZ (λc1 e=>Y5 _ e))) h ((dZ (gF j)).trans ?_) Zg s);grind [fc]
  have b9:f.heap.size ∉ C.M:=λe=>by have:=g.bn _ (d.ex _ e);omega
  have c0:w.heap.size ∉ C.M:=λe=>b3 (Y5 _ e);have b8:=(m.ak _ (ay F) b9).trans F;have a2:=(m.ak _ Zg c0).trans ((l.block _ b7).trans D);have O:=(h.A (.cells #[Y b.w,Zs b.text,Y b.n,Y b.y] 154)).u (m.aZ (M':=c.S::C.M) (λc1 e=>Y5 _ e));obtain⟨d9,e0,e1,e2,_⟩:=tC b8;have J:=U O;have y:=U a2;have H:=U b0;have K:=U b5;go_wp21;refine(Hz b _).mono ?_;rintro r c5 ⟨rfl,k⟩;have a3:=(k.block _ (ay y.i)).trans y.i;obtain⟨c2,c3,d3⟩:=sJ a3;have P:=J.i.u (ef _ k);have b6:=K.i.az k;have b1:=d.fx H.i (ef [] k) Zq;go_wp2;obtain⟨L,N⟩:=zl g P b6 (Zs b.text) (Y b.y);refine bodyPost_ret (v:=.agg #[Zs b.text,Y b.y]) (by simp[results,results185,go_sem,c2,c3]) rfl (DL (a:=(b.text,b.y)) (t:=c4) L ((dZ (gF j)).trans ?_) rfl N ?_)
  .rw[u];exact dZ G
  .exact d.fx b1 (((ar [w.heap.size] c5).a6 (p:=⟨w.heap.size,0,none⟩) Zq _).a6 (p:=⟨w.heap.size,1,none⟩) Zq _) Zu
end
section
variable {b:Ad}{e:Zv}{a:Zw}{c:St}{τ:Type}
theorem sk.a3{d:fj τ}{f:Za}(a:sk d b f)(m:List Nat):sk d (b.a3 m) f where
 d2:=a.d2
 fx:=a.fx
 gn:=a.gn
 ex:=λn k=>Ym _ (a.ex n k)
 call:=λo g h l j i=>a.call o g (λe c=>h e (Ym _ c)) l j (i.ca λe c=>Ym _ c)
def SU{g h i:Type}{a:PX τ g}{d:g->PX τ h}{f:h->PX τ i}{b:τ}:aQ (aQ a d) f b c=aQ a (λe=>aQ (d e) f) b c:=by
 unfold aQ;cases a b c<;>rfl
abbrev rz:aV->Zv:=λa=>.agg #[Zs a.t,Y a.y,fY a.H]
def pz(c:Za)(a:Zb×Nat)(d:Ty):PX τ aV:=aQ (lift (qg c)) λb=>eJ ⟨a.1,a.2,.arr d b.1 b.2⟩
def vI(c:Za)(a:Zb×Nat)(b:Ty)(d:Bool):PX τ aV:=if d then pz c a b else eJ ⟨a.1,a.2,b⟩
def vH(a:Za)(b:Zb×Nat)(c:Ty)(d:Bool):PX τ aV:=if d then pz a b c else aQ (lift (jD a [60])) (vI a b c)
def uk(a:Za)(c:Ty)(b:Zb×Nat):PX τ aV:=aQ (lift (jD a [91])) (vH a b c)
def uj(a:Za)(b:fj τ)(d:Ty)(e:Bool):PX τ aV:=if e then aQ (name a b) λc=>eJ ⟨c.1,c.2,.opt d⟩else aQ (name a b) (uk a d)
def vG(a:Za)(b:fj τ)(c:Ty):PX τ aV:=aQ (lift (el a [42])) (uj a b c)
def rx(a:Za)(b:fj τ)(e:Bool):PX τ aV:=
 if e then aQ (name a b) λc=>aQ (lift (rH a)) λd=>eJ ⟨c.1,c.2,.str d.1 d.2⟩else aQ (lift (sa a)) (vG a b)
def ru(a:Za)(b:fj τ)(e:Bool):PX τ aV:=
 if e then aQ (name a b) λc=>aQ (lift (qg a)) λd=>eJ ⟨c.1,c.2,.opaq d.1 d.2⟩else aQ (lift (el a Ju)) (rx a b)
def il(a:Za)(b:fj τ):PX τ aV:=aQ (lift (el a Jy)) (ru a b)
def Ex{b:Nat}{c d:Zv}{f}(h:a.heap[b]?=some (.cells #[c,d,e] f)):a.cell? (Zd b 0)=some c/\a.cell? (Zd b 1)=some d/\a.cell? (Zd b 2)=some e/\∀g,a.frozen? ⟨b,g,none⟩=false:=by
 simp_all[World.cell?,World.frozen?]
def vJ{c:fj τ}{p r o q k}{u w:Zv}{l:Except Mar.ac (aV×τ×St)}{d:aV}{g:Act}{m:Func}(i:Nat)(f:af (bF (b.S::c.M) c.M b p c.I o k c.bs r a q))(s:af (l=.ok (d,o,r)))
  (n:k[i]?=some (.obj a.heap.size (.cells #[e,u,w] 242)):=by rfl) (x:g.tmps[4]?=some (Zp a.heap.size):=by rfl) (y:g.defers=[]:=by rfl) (z:m.results=#[.cell 4 242]:=by rfl) :
  bodyPost prog m (lW (b.S::c.M) b p a l rz c.I) .ret g (((q.setCell ⟨a.heap.size,0,none⟩ (Zs d.t)).setCell ⟨a.heap.size,1,none⟩ (Y d.y)).setCell ⟨a.heap.size,2,none⟩ (fY d.H)):=by
 have h:=(YB.1 n).1;have f:=((f.i.aq (j:=0) n (Zs d.t)).aq (i:=i) (j:=1) (List.getElem?_set_self h) (Y d.y)).aq (i:=i) (j:=2) (List.getElem?_set_self (by simpa using h)) (fY d.H);have A:=aE (f.th (i:=i) (List.getElem?_set_self (by simpa using h)));generalize World.setCell _ _ (fY d.H)=B at *
 refine bodyPost_ret (v:=rz d) ?_ y ⟨f.kp,Y8 ⟨_,_,_,s.i,rfl,f.fin,f.j⟩⟩;simp[results,z,go_sem,x,A]
def ER{C:fj τ}{p:Za}{t:τ}(n:sk C b p)(G:Rd b p c a)(N:C.I t a)(M:dF b.X C.bs a):Calls prog 191 #[Zp b.R,.func (.func C.f) C.e5 C.f6] a (lW (b.S::C.M) b p a (il p C t c) rz C.I):=by
 have a0:=n.gn;have e:=U ((vm (M:=b.S::C.M) (F:=C.M) (J:=C.I) G M N n.fx (by simp[G.cD];exact λP O=>n.ex P O)).A (.cells #[.string ⟨#[]⟩,Y 0,.nilIface] 242));have g:af (il p C t c=aQ (lift (el p _)) (ru p C) t c):=U rfl;go_in;go_wp21;refine cM e g (pq _ ·) λl x w g e=>?_;cases l with
 |true=>
  go_wp21;refine tu e g (λj o=>uz (n.a3 _) j o e.i.da) λi B D q g e=>?_;dsimp only[jB];have e:=U (e.i.A (.cells #[.string ⟨i.1.toArray⟩,Y i.2] 160)).ag;go_wp21;refine bJ (λv=>∀h,v.cell? (Zd q.heap.size h)=(#[.string ⟨i.1.toArray⟩,Y i.2]:Array Zv)[h]?) ?_ λs=>?_
  .exact aE (e.i.th (i:=0) rfl)
  refine bf [0,1] ?_;iterate 2 (refine bi ?_)
  refine bg ?_;refine bI 2 λr k=>?_;(go_simp;refine cM e g (Ki ·) λm L K g e=>?_;have A:=aE (e.i.th (i:=0) rfl));refine k.out _ _ ?_ (λs=>?_)
  .go_keep
  refine nz ?_;refine bf [3,4,5] ?_;iterate 3 (refine bi ?_)
  refine bg ?_;refine wpAnyH_done Zk ?_ _;have j:=aE (e.i.th (i:=1) rfl);have z:=bl (e.i.th (i:=1) rfl);refine BL rfl (λr k=>?_);(go_simp);refine k.out _ _ ?_;refine nz ?_;go_wp2;exact vJ (d:=⟨i.1,i.2,.opaq m.1 m.2⟩) 1 e g
 |false=>
  go_wp21;refine cM e g (pq _ ·) λl x w g e=>?_;cases l with
  |true=>
   go_wp21;refine tu e g (λj o=>uz (n.a3 _) j o e.i.da) λi B D q g e=>?_;dsimp only[jB];have e:=U (e.i.A (.cells #[.string ⟨i.1.toArray⟩,Y i.2] 160)).ag;go_wp21;refine bJ (λv=>∀h,v.cell? (Zd q.heap.size h)=(#[.string ⟨i.1.toArray⟩,Y i.2]:Array Zv)[h]?) ?_ λs=>?_
   .exact aE (e.i.th (i:=0) rfl)
   refine bf [0,1] ?_;iterate 2 (refine bi ?_)
   refine bg ?_;refine bI 2 λr k=>?_;(go_simp;refine cM e g (MJ ·) λm L K g e=>?_;have A:=aE (e.i.th (i:=0) rfl));refine k.out _ _ ?_ (λs=>?_)
   .go_keep
   refine nz ?_;refine bf [3,4,5] ?_;iterate 3 (refine bi ?_)
   refine bg ?_;refine wpAnyH_done Zk ?_ _;have j:=aE (e.i.th (i:=1) rfl);have z:=bl (e.i.th (i:=1) rfl);refine BL rfl (λr k=>?_);(go_simp);refine k.out _ _ ?_;refine nz ?_;go_wp2;exact vJ (d:=⟨i.1,i.2,.str m.1 m.2⟩) 1 e g
  |false=>
   go_wp21;refine cM e g (Pz ·) λu x w g e=>?_;obtain⟨E,H,y⟩:∃E H,af (fY u=.iface E H):=by cases u<;>exact⟨_,_,rfl⟩
   rw[y.i];go_wp21;refine cM e g (pq _ ·) λl x w g e=>?_;cases l with
   |true=>
    go_wp21;refine tu e g (λj o=>uz (n.a3 _) j o e.i.da) λi B D q g e=>?_;dsimp only[jB];have j:=aE (e.i.th (i:=0) rfl);have z:=bl (e.i.th (i:=0) rfl);go_wp2;rw[<-y.i];exact vJ (d:=⟨i.1,i.2,.opt u⟩) 0 e g
   |false=>
    go_wp21;refine tu e g (λj o=>uz (n.a3 _) j o e.i.da) λi B D q g e=>?_;dsimp only[jB];have e:=U (e.i.A (.cells #[.string ⟨i.1.toArray⟩,Y i.2] 160));go_wp21;refine cM e g (zV _ ·) λl x w g e=>?_;have A:=aE (e.i.th (i:=0) rfl);rcases l with _|_;case' false=>
     go_wp21;refine cM e g (zV _ ·) λl x w g e=>?_;have A:=aE (e.i.th (i:=0) rfl);rcases l with _|_;case' false=>
      have j:=aE (e.i.th (i:=1) rfl);have z:=bl (e.i.th (i:=1) rfl);go_wp2;rw[<-y.i];exact vJ (d:=⟨i.1,i.2,u⟩) 1 e g
    all_goals
     have e:=U e.i.ag;go_wp21;refine bJ (λv=>∀h,v.cell? (Zd q.heap.size h)=(#[.string ⟨i.1.toArray⟩,Y i.2]:Array Zv)[h]?) ?_ λs=>?_
     .exact aE (e.i.th (i:=0) rfl)
     refine bf [0,1,2] ?_;iterate 3 (refine bi ?_)
     refine bg ?_;refine bI 3 λr k=>?_;(go_simp;refine cM e g (Ki ·) λm L K g e=>?_;have A:=aE (e.i.th (i:=0) rfl));refine k.out _ _ ?_ (λs=>?_)
     .go_keep
     refine nz ?_;refine bf [4,5,6] ?_;iterate 3 (refine bi ?_)
     refine bg ?_;refine wpAnyH_done Zk ?_ _;have j:=aE (e.i.th (i:=1) rfl);have z:=bl (e.i.th (i:=1) rfl);refine BL rfl (λr k=>?_);(go_simp);refine k.out _ _ ?_;refine nz ?_;go_wp2;rw[<-y.i];exact vJ (d:=⟨i.1,i.2,.arr u m.1 m.2⟩) 1 e g
end
def iR(a:Ad):fj Unit where
 f:=186
 e5:=#[Zp a.R]
 f6:=#[]
 M:=[a.N]
 bs:=[]
 I:=λ_ _=>True
 a9:=λb=>lift (jc b)
def Ux(args:Array Zv)(a:Zw):(callFunc 186 args).run prog a=.ok (.enter 186 args) a:=Zk
def Sk(args:Array Zv)(a:Zw):(callFunc 251 args).run prog a=.ok (.enter 251 args) a:=Zk
def Kr{a c s p}(d:Rd a c s p):sk (iR a) a c where
 d2:=Ux
 fx:=λ_ _ _=>trivial
 gn:=by simp[iR];exact d.cc.2.2.2.1
 ex:=by simp[iR];exact d.cD.2.2.1
 call:=by
  intro h q o i g e _ l _ _;have:=Uw g l;rw[e.1,e.2.2.1]at this;refine Calls.mono (R:=fH [a.N] h c i (jc g q) uS) this ?_;rintro t u ⟨f,⟨j,r,b,rfl,m⟩|⟨k,b,n⟩⟩
  .exact⟨f,Y8 ⟨j,o,r,gF b,rfl,m,trivial⟩⟩
  .exact⟨f,Ya ⟨k,im b,n⟩⟩
def cQ(a b:Nat):fj (Zc) where
 f:=251
 e5:=#[]
 f6:=#[Zp b]
 M:=[a]
 bs:=[(b,.cells #[.map (some a)] 103)]
 I:=hO a
 a9:=λc=>pK (qi c)
def EF{i v c f}(a:ib i c):sk (cQ c f) i v where
 d2:=Sk
 fx:=λe b g=>e.ae b (λa=>g _ a (by simp[cQ]))
 gn:=by simp[cQ];exact λj=>a.2.2.1 j.symm
 ex:=by simp[cQ];exact a.1
 call:=by
  intro k x y l w d n r e q;have o:l.cell? (Zd f 0)=some (.map (some c)):=by
   have:=(q (f,.cells #[.map (some c)] 103) (by simp[cQ])).1;grind [World.cell?]
  refine Calls.mono (Sj w e o) ?_;have p:ib k c:=⟨n _ a.1,by rw[d.1];exact a.2.1,by rw[d.2.1];exact a.2.2.1,by rw[d.2.2.1];exact a.2.2.2.1,by rw[d.2.2.2];exact a.2.2.2.2⟩;rintro j A ⟨b,⟨u,h,rfl,s⟩|⟨m,h,t⟩⟩
  .obtain⟨_,z,_,g⟩:=id e;exact⟨b,Y8 ⟨(),u,x,xW h,rfl,r.i1 b p g,s⟩⟩
  .exact⟨b,Ya ⟨m,xV h,t⟩⟩
section
variable {a:Ad}{c:Zw}{d:Type}{b:St}
def lx(e:PX Unit d):PM d:=λb=>match e () b with
 |.ok (a,_,f)=>.ok (a,f)
 |.error c=>.error c
def El{c:PX Unit d}{e:St}{a:d}{u:Unit}(f:c () b=.ok (a,u,e)):lx c b=.ok (a,e):=by simp only[lx,f]
theorem Ek{c:PX Unit d}{a}(e:c () b=.error a):lx c b=.error a:=by simp only[lx,e]
def uD:Ad:=⟨0,0,0,0,[]⟩
def ry(a:Za):PM aV:=lx (il a (iR uD))
def jA(a:Za):PM (Zb×Nat):=lx (name a (iR uD))
def ve(l:TypeId)(k:List Nat)(a:Ad)(m:Za)(c:Zw)(i:Except Mar.ac (aD×St))(h:Ending)(b:Zw):Prop:=
 ap k c b/\((∃d j f g,i=.ok (d,j)/\h=.returned (Zp f)/\Rd a m j b/\gH g f d/\dF a.X g b/\fC d=l)\/(∃e,i=.error e/\eH c e.no e.y h b))
def Un{e}(f:Rd a e b c):Calls prog 191 #[Zp a.R,.func (.func 186) #[Zp a.R] #[]] c (fH [a.S,a.N] a e c (ry e b) rz):=by
 refine Calls.mono (ER (C:=iR a) (t:=()) (Kr f) f trivial (λp k=>by simp[iR]at k)) ?_;rintro o q ⟨g,⟨i,h,n,d,rfl,l,_⟩|⟨j,d,m⟩⟩
 .exact⟨g,Y8 ⟨i,n,El (u:=h) d,rfl,l⟩⟩
 .exact⟨g,Ya ⟨j,Ek d,m⟩⟩
def xy{e}(f:Rd a e b c):Calls prog 185 #[Zp a.R,.func (.func 186) #[Zp a.R] #[]] c (fH [a.S,a.N] a e c (jA e b) jB):=by
 refine Calls.mono (uz (C:=iR a) (t:=()) (Kr f) f trivial (λp k=>by simp[iR]at k)) ?_;rintro o q ⟨g,⟨i,h,n,d,rfl,l,_⟩|⟨j,d,m⟩⟩
 .exact⟨g,Y8 ⟨i,n,El (u:=h) d,rfl,l⟩⟩
 .exact⟨g,Ya ⟨j,Ek d,m⟩⟩
def lR(a:Za)(b:Nat):PM aD:=aN (kD b) λ_=>aN (ry a) λc=>aN (cu a [59]) λ_=>ret (.typedef c)
def oP(a:Ty):∃b v,fY a=.iface b v:=by cases a<;>exact⟨_,_,rfl⟩
def oQ(a:Ty):∃b v,af (fY a=.iface b v):=oP a
def agW{h}(f:Nat)(k:Rd a h b c):Calls prog 120 #[Zp a.R,Y f] c (ve 225 [a.R,a.S,a.N] a h c (lR h f b)):=by
 have n:=jT;have d:=U (yH k);have e:af (lR h f b=aN (kD f) _ b):=U rfl;go_in;go_wp21;refine cM d e (Ch f ·) λo u p e d=>?_;go_wp21;refine cM d e (Un ·) λg v q e d=>?_;obtain⟨j,l,i⟩:=oQ g.H;dsimp only[rz];rw[i.i];have d:=U (d.i.A (.cells #[Zs g.t,Y g.y,.iface j l] 244))
 go_wp21;refine cM d e (hq _ ·) λs m r e d=>?_;go_wp2;go_ret;exact⟨d.i.kp,Y8 ⟨.typedef g,m,_,_,e.i,rfl,d.i.c6.fin,by show _∈_;simp[oA,i.i],d.i.c6.br,rfl⟩⟩
end
def lz(a:Za)(c:Nat):PM aD:=aN (lF c) λ_=>aN (jA a) λb=>aN (cu a [61]) λ_=>
 aN (jZ a (dT (-2147483648) 4294967295)) λd=>aN (cu a [59]) λ_=>ret (.const b.1 b.2 d.1)
def TP{c f g}(d:Nat){h}(l:Rd c f g h):Calls prog 119 #[Zp c.R,Y d] h (ve 223 [c.R,c.S,c.N] c f h (lz f d g)):=by
 have s:=jT;have a:=U (yH l);have b:af (lz f d g=aN (lF d) _ g):=U rfl;go_in;go_wp21;refine cM a b (MS d ·) λw D x b a=>?_;go_wp21;refine cM a b (xy ·) λe E y b a=>?_;dsimp only[jB];have a:=U (a.i.A (.cells #[.string ⟨e.1.toArray⟩,Y e.2,Y 0] 343));go_wp21;refine cM a b (hq _ ·) λp F z b a=>?_;go_wp21;refine(wG _ _ _).mono ?_;rintro r A ⟨v,rfl,m,o⟩;have n:=o _ a.i.rd.bn;have a:=U (a.i.ae (ef [] m));go_wp21;refine cM a b (HM · n) λk G B b a=>?_;have t:=aE (a.i.th (i:=0) rfl);have u:=bl (a.i.th (i:=0) rfl);have a:=U (a.i.aq (i:=0) (j:=2) rfl (Y k.1));dsimp only[zL];go_wp21;refine cM a b (hq _ ·) λp q C b a=>?_;go_wp2;go_ret;exact⟨a.i.kp,Y8 ⟨.const e.1 e.2 k.1,q,_,_,b.i,rfl,a.i.c6.fin,by show _∈_;simp,a.i.c6.br,rfl⟩⟩
def sG{a:Type}(c:Za)(b:fj a)(d:Bool):PX a aV:=if d then eJ ⟨[],0,.void⟩else il c b
def lw{b:Type}(a:Za)(c:fj b):PX b aV:=aQ (aQ (lift (el a Jt)) (sG a c)) λd=>aQ (lift (cu a [59])) λ_=>eJ d
def JY{t:Type}{b:fj t}{e:Ad}{d:Za}{k:St}{j:t}{h:Zw}(l:sk b e d)(q:Rd e d k h)(v:b.I j h)(u:dF e.X b.bs h):Calls prog 200 #[Zp e.R,.func (.func b.f) b.e5 b.f6] h (lW (e.S::b.M) e d h (lw d b j k) rz b.I):=by
 have C:=l.gn;have x:∀z,(h.alloc z).heap.size=h.heap.size+1:=Zq;have a:=((vm (M:=e.S::b.M) (F:=b.M) (J:=b.I) q u v l.fx (by simp[q.cD];exact λy w=>l.ex y w)).A (.cells #[.string ⟨#[]⟩,Y 0,.nilIface] 242)).A (.cells #[.string ⟨#[]⟩,Y 0,.iface 444 (.agg #[])] 242)
 rw[x]at a;have a:=U a;have c:af (lw d b j k=aQ (lift (el d _)) (λp=>aQ (sG d b p) _) j k):=U SU;go_in;go_wp21;refine cM a c (pq _ ·) λp B G c a=>?_;rcases p with _|_;case' false=>
  go_wp21;refine tu a c (λs m=>ER (l.a3 _) s m a.i.da) λg E N H c a=>?_;obtain⟨n,o,r⟩:∃n o,af (fY g.H=.iface n o):=by cases g.H<;>exact⟨_,_,rfl⟩
  dsimp only[rz];rw[r.i];have A:=aE (a.i.th (i:=0) rfl);have M:=bl (a.i.th (i:=0) rfl);have a:=U (((a.i.aq (i:=0) (j:=0) rfl (Zs g.t)).aq (i:=0) (j:=1) rfl (Y g.y)).aq (i:=0) (j:=2) rfl (.iface n o))
 case' true=>replace c:af (lw d b j k=aQ (lift (cu d [59])) (λ_=>eJ ⟨[],0,.void⟩) j B):=c
 all_goals
  go_wp21;refine cM a c (hq _ ·) λL O K c a=>?_;have A:=aE (a.i.th (i:=0) rfl);have s:=aE (a.i.th (i:=1) rfl);have D:=bl (a.i.th (i:=1) rfl);go_wp2;first|(rw[<-r.i];exact vJ (d:=g) 1 a c)|exact vJ (d:=⟨[],0,.void⟩) 1 a c
section
variable {a:Nat}{f c:Zo}{e:Option aD}{w:Zw}{g:Type}
def aes{P:Program}{T kt et:TypeId}{d}(t:P.underlying T=some (.map kt et))(l:P.underlying kt=some d){s}(m:IsKey d (.string s)){c g}
  (k:w.heap[a]?=some (.map c g)) (p:∀f∈c.toList,IsKey d f.key) (u:∃f∈c.toList,f.key=.string s) (v:Zv) :
  ∃(e:Nat) (b:MapEntry),c.toList[e]?=some b/\b.key=.string s/\
   (Instr.mapUpdate T (.map (some a)) (.string s) v).run P w=.ok () (fg w a (.map (c.modify e λb=>{ b with key:=.string s,val:=v }) g)):=by
 have o:=λn=>MapKept.run_checkKey (w:=w) l m n 9999;rcases findNow_spec m c.toList 0 p with⟨h,i⟩|⟨e,b,h,i,j⟩
 .grind
 .refine⟨e,b,i,j,?_⟩;have q:c[e]?=some b:=Zu;have r:Instr.keyThatStays (.string s) (.string s)=pure (.string s):=by
   unfold Instr.keyThatStays;rw[Y9 (by show (s==s)=true;simp_all[bytes_beq])]
  simp[Instr.mapUpdate,Instr.findKey,run_underlying t,run_underlying l,MapKept.run_getObj_map k,o,h,q,j,r,MapKept.run_setObj_map _ k,Result.andThen]
def ew(d:List (Zb×Option aD))(c:Zb)(b:aD):List (Zb×Option aD):=d.map λa=>if a.1==c then (a.1,some b)else a
def Ol(a:List (Zb×Option aD))(c:Zb)(b:aD):(ew a c b).map (·.1)=a.map (·.1):=by
 grind [ew,List.map_congr_left]
def FN{c:List (Zb×g)}{b:Zb}{e:g}(d:aP c b=some e):∃a∈c,a.1=b/\a.2=e:=by
 unfold aP at d;cases f:c.find? (λa=>a.1==b)<;>grind
def xB{a:List g}(d:a.Nodup)(b c:Nat)(f:b<a.length)(h:c<a.length)(e:a[b]=a[c]):b=c:=by
 have i:=List.pairwise_iff_getElem.1 d;grind
theorem gH.aZ{q n}(a:∀s∈f,s∈c)(g:gH f q n):gH c q n:=by
 cases n with
 |const o m v=>exact a _ g
 |typedef n=>exact a _ g
 |enum o m r=>obtain⟨e,t,b,d,j,k⟩:=g;exact⟨e,t,a _ b,d,j.aZ a,λl h i=>a _ (k l h i)⟩
 |struct o m r=>obtain⟨e,b,d⟩:=g;exact⟨e,a _ b,d.aZ a⟩
 |union o m x u=>obtain⟨e,p,b,d,j,k⟩:=g;exact⟨e,p,a _ b,d,j.aZ a,λl h i=>(k l h i).aZ a⟩
 |prog o m y w=>obtain⟨e,p,b,d,j,k⟩:=g;exact⟨e,p,a _ b,d,j.aZ a,λl h i=>(k l h i).aZ a⟩
theorem og.aZ{v}(b:∀d∈f,d∈c)(a:og f v e):og c v e:=by
 cases e with
 |none=>exact a
 |some h=>exact a.imp λg a=>⟨a.1,a.2.aZ b⟩
theorem iA.aq{X g}(A:iA X a g w)(O:a∈X){l:Zb}(J:aP g l=some e)
  {d b c} (D:gH c b d) (E:dF X c w) :
  ∃x,(Instr.mapUpdate 148 (.map (some a)) (Zs l) (.iface (fC d) (Zp b))).run prog w=.ok () (fg w a x)/\iA X a (ew g l d) (fg w a x):=by
 obtain⟨q,f,m,B,C,u,N⟩:=A;have H:=ay u;obtain⟨i,k,K,_⟩:=FN J;obtain⟨h,S,rfl⟩:=List.getElem_of_mem k;have a0:h<m.length:=Zm;have R:=xz (g.zip m |>.map λi=>(i.1.1,i.2));obtain⟨p,r,n,z,M⟩:=aes (P:=prog) (T:=148) (kt:=9) (et:=157) (d:=.string) Zk Zk (s:=⟨l.toArray⟩) trivial u Zm
  ⟨⟨.string ⟨g[h].1.toArray⟩,m[h],h⟩,by
   grind,Zg⟩ (.iface (fC d) (Zp b))
 simp only[List.getElem?_mapIdx]at n;have a1:p<g.length:=by
  grind
 rw[Yd Zu]at n;simp at n;subst n;simp at z;have F:h=p:=by
  have L:(g.map (·.1))[h]' Zu=(g.map (·.1))[p]' Zu:=Zu;exact xB q _ _ _ _ L
 subst F;refine⟨_,M,?_,f++c,m.set h (.iface (fC d) (Zp b)),?_,?_,?_,?_⟩
 .rw[Ol];omega
 .intro i k;rcases Yn.1 k with k|k
  .exact(B.ae (pI ..) Zu) i k
  .exact(E.ae (pI ..) Zu) i k
 .simp[ew,C]
 .rw[NF H];unfold uA;have G:(List.map (λi:(Zb×Option aD)×Zv=>(i.1.1,i.2)) ((ew g l d).zip (m.set h (.iface (fC d) (Zp b))))).length=(List.map (λi:(Zb×Option aD)×Zv=>(i.1.1,i.2)) (g.zip m)).length:=by simp[ew]
  rw[G];refine Yo (λy=>some (Obj.map y _)) ?_;apply Array.ext';simp only[Array.toList_modify];apply List.ext_getElem
  .simp_all
  .intro j a3 a4;have I:j<g.length:=Zu;by_cases o:h=j
   .simp_all[ew]
   .have v:¬g[j].1=l:=λr=>o (xB q h j Zu Zu Zu);simp_all[ew]
 .intro j I a2;have a5:j<g.length:=Zu;by_cases o:h=j
  .subst o;have t:(ew g l d)[h].2=some d:=by simp[ew,K]
   rw[t,List.getElem_set_self];exact og.aZ (λi k=>Ym _ k) (show og c _ (some d)from⟨b,rfl,D⟩)
  .have v:¬g[j].1=l:=λr=>o (xB q h j Zu Zu Zu);have t:(ew g l d)[j].2=g[j].2:=by simp[ew,v]
   grind [og.aZ]
end
section
variable {α:Type}{a b:St}
def jM(d:PM α):Prop:=∀a c b,d a=.ok (c,b)->b.G=a.G
theorem jM.a7{k:Type}{f:PM α}{g:α->PM k}(i:jM f)(h:∀d,jM (g d)):jM (aN f g):=by
 intro a l b c;cases e:f a with
 |error m=>rw[dv e]at c;cases c
 |ok j=>
  obtain⟨d,n⟩:=j;rw[bK e]at c;rw[h d _ _ _ c,i _ _ _ e]
theorem jM.ret(c:α):jM (ret c):=by
 intro a d b e;grind [YtjdhaegijjednaaGreatDoor.ret]
theorem DU(e c:Nat):jM (hZ (α:=α) e c):=λa f b d=>by cases d
def wS{a:Prop}[Decidable a]{b c:PM α}(d:jM b)(e:jM c):jM (if a then b else c):=Zg
def NH(c:Za):jM (next c):=by
 intro a d b e;grind [next]
def acT(a:Za)(b:Zb):jM (cu a b):=(NH a).a7 λc=>wS (jM.ret _) (DU _ _)
def acS(c:Mar.aU):jM (nI c):=by
 intro a d b e;grind [nI]
def acU(a:Mar.aU):jM (lE a):=
 wS (jM.ret _) (wS (acS a) (wS (jM.ret _) (wS (jM.ret _) (DU _ _))))
def acW(a:Za)(b:Int->Bool):jM (jZ a b):=(NH a).a7 λc=>(acU c).a7 λd=>wS (jM.ret _) (DU _ _)
def acV{f:Za}{e:Int->Bool}{h k:List (Int×Int)}{l:Int}(c:ir f e h a=.ok (l,k,b)):b.G=a.G:=by
 unfold ir at c;cases g:jZ f e a with
 |error i=>simp_all[fc,im]
 |ok d=>
  obtain⟨d,n⟩:=d;rw[dZ (gF g)]at c;cases j:ox d.1 d.2 h ⟨6,d.2⟩with
  |error i=>simp_all[fc,xV]
  |ok m=>
   rw[dZ (xW j)]at c;simp only[eJ,Except.ok.injEq,Prod.mk.injEq]at c;rw[<-c.2.2];exact acW f e _ _ _ g
def aba{i:Za}{h:Zb×Nat}(c:jA i a=.ok (h,b)):aP b.G h.1=some none:=by
 unfold jA lx name at c;cases k:next i a with
 |error m=>simp_all[fc,im]
 |ok l=>
  obtain⟨d,e⟩:=l;rw[dZ (gF k)]at c;by_cases f:((d.w:Int)==1)=true
  .rw[Y9 f]at c;cases g:aP e.G d.text with
   |none=>
    have j:jc d e=.ok ((),{ e with G:=e.G++[(d.text,none)] }):=by simp only[jc,g]
    rw[dZ (show (iR uD).a9 d () e=_ from gF j)]at c;simp only[eJ,Except.ok.injEq,Prod.mk.injEq]at c;obtain⟨rfl,rfl⟩:=c;unfold aP at g ⊢;grind
   |some n=>
    simp_all[jc,fc,iR,im]
  .rw[Y2 f]at c;cases c
def gT(c rH b:Nat):PM Unit:=λa=>if rH<=c then .error ⟨5,b⟩else .ok ((),a)
def FM(c:Zb)(b:aD):PM Unit:=λa=>.ok ((),{ a with G:=ew a.G c b })
def kY(b:Za)(d:Nat):PX (List (Int×Int)) (Zb×Nat×Int):=
 aQ (lift (ht b)) λc=>aQ (lift (gT d 12 c.y)) λ_=>aQ (lift (lF c.y)) λ_=>aQ (lift (jA b)) λa=>aQ (lift (cu b [61])) λ_=>
  aQ (ir b (dT (-2147483648) 2147483647)) λv=>aQ (lift (FM a.1 (.const a.1 a.2 v))) λ_=>eJ (a.1,a.2,v)
end
section
variable {a:Ad}{b:Nat}{c:Zw}{e:St}
def EL(a:Zb×Nat×Int):Obj:=.cells #[.string ⟨a.1.toArray⟩,Y a.2.1,Y a.2.2] 343
def Ri(l:List Nat)(a:Ad)(m:Za)(c:Zw)(b:Nat)(j:Except Mar.ac ((Zb×Nat×Int)×List (Int×Int)×St))(g:Ending)(d:Zw):Prop:=
 ap l c d/\((∃i h k f,j=.ok (i,h,k)/\g=.returned (Zp f)/\Rd a m k d/\hn b h d/\dF a.X [(f,EL i)] d)\/(∃e,j=.error e/\eH c e.no e.y g d))
theorem ib.a3(c:ib a b)(d:List Nat):ib (a.a3 d) b:=⟨Ym _ c.1,c.2⟩
def CM{i}(d b f:Nat)(k:Rd a i e c):Calls prog 201 #[Y d,Y b,Y f] c (fH [] a i c (gT d b f e) uS):=by
 by_cases g:b<=d
 .exact(GM _ _ _ _ Zm).mono λj l h=>⟨ef _ h.2,Ya ⟨_,Y9 g,h.1⟩⟩
 .refine(GO _ _ _ _ Zm).mono ?_;rintro j l ⟨rfl,rfl⟩;exact⟨ar ..,Y8 ⟨(),_,Y2 g,rfl,k⟩⟩
def aae{l}(p:Nat){n}(m:Rd a l e c)(k:ib a b)(I:hn b n c):Calls prog 193 #[Zp a.R,Y p,.map (some b)] c (Ri [a.R,a.S,a.N,b] a l c b (kY l p n e)):=by
 have a9:=jT;have a8:=Lm;obtain⟨a3,-,-,-,-,a7⟩:=m.K;have b2:¬a.R=b:=λh=>k.2.1 h.symm;have b3:¬a.S=b:=λh=>k.2.2.1 h.symm;have M:¬a.N=b:=λh=>k.2.2.2.1 h.symm;have f:=U (vm (M:=[a.R,a.S,a.N,b]) (F:=[b]) (J:=hn b) (H:=[]) m (by simp[dF]) I (λz q A=>z.ae q λG=>A _ G Zq) (by simp[m.cD,k.1]));have g:af (kY l p n e=aQ (lift (ht l)) _ n e):=U rfl;go_in;go_wp21;refine cM f g (Cy ·) λb9 c1 b4 g f=>?_;dsimp only[dH];go_wp21;refine cM f g (CM _ _ _ ·) λP c2 b5 g f=>?_;go_wp21;refine cM f g (MS _ ·) λP c3 b6 g f=>?_;go_wp21;refine ya f g (xy ·) λj c4 u w g f=>?_;dsimp only[jB];have f:=U (f.i.A (.cells #[.string ⟨j.1.toArray⟩,Y j.2,Y 0] 343));go_wp21;refine ya f g (hq _ ·) λc0 c5 b7 x g f=>?_;go_wp21;refine(wG _ _ _).mono ?_;rintro h b8 ⟨v,rfl,B,D⟩;have C:=D _ f.i.rd.bn;have f:=U (f.i.ae (ef [] B));go_wp21;refine Hf f g (λO r=>Gi O C (k.a3 _) r) λo s a1 a0 y g f=>?_;have E:aP a1.G j.1=some none:=by rw[acV y.i,acT _ _ _ _ _ x.i];exact aba w.i
 have b0:=aE (f.i.th (i:=0) rfl);have b1:=bl (f.i.th (i:=0) rfl);have f:=U (f.i.aq (i:=0) (j:=2) rfl (Y o)).c6;dsimp only[nO];go_wp21;generalize a0.setCell ⟨u.heap.size,2,none⟩ (Y o)=a2 at *
 obtain⟨a4,a5,-,-,-,a6⟩:=f.i.fin.K;have h:=aE (f.i.da _ Yb).1;have f:=U f.i.ag;obtain⟨t,L,K⟩:=f.i.fin.nm.aq m.cD.2.2.1 E (d:=.const j.1 j.2 o) (b:=u.heap.size) Yb f.i.br;dsimp only[fC]at L;have f:=U (f.i.call (t':=s) (pI _ _ t) (f.i.fin.jk K) (f.i.st f.i.j (pI _ _ t) (by simp[Ad.a3,M])) (by simp[Ad.a3]));go_region;go_wp2;go_ret;exact⟨f.i.kp,Y8 ⟨(j.1,j.2,o),s,_,_,g.i,rfl,f.i.fin,f.i.j,f.i.br⟩⟩
end
section
variable {c:List (Int×Int)}{a:List (Zb×Nat×Int)}{b:Zb×Nat}{d:St}
def ap.cons{g e f}{c d a:List Nat}(h:ap c g e)(k:ap d e f)(i:∀b∈c,b∈a)(j:∀b∈d,b∈a):ap a g f:=(h.aZ i).u (k.aZ j)
def qn(c:Za)(b:Zb×Nat)(a:List (Zb×Nat×Int)):PM aD:=aN (cu c Jl) λ_=>aN (cu c [59]) λ_=>ret (.enum b.1 b.2 a)
def kC(e:Za)(b:Zb×Nat):Nat->List (Zb×Nat×Int)->List (Int×Int)->PM aD
 |0,_,_=>hZ 0 0
 |k+1,a,c=>λd=>match kY e a.length c d with
  |.ok (f,h,j)=>aN (el e [44]) (λi=>if i then kC e b k (a++[f]) h else qn e b (a++[f])) j
  |.error g=>.error g
def wb{e}{g:Nat}{h:List (Int×Int)}{i:St}{f:Zb×Nat×Int}(j:kY e a.length c d=.ok (f,h,i)):kC e b (g+1) a c d=aN (el e [44]) (λk=>if k then kC e b g (a++[f]) h else qn e b (a++[f])) i:=by simp only[kC,j]
theorem wa{f}{h:Nat}{e}(g:kY f a.length c d=.error e):kC f b (h+1) a c d=.error e:=by simp only[kC,g]
def kS(a:Za)(c:Nat):PM aD:=aN (kD c) λ_=>aN (jA a) λb=>aN (cu a Jv) λ_=>kC a b 13 [] []
end
structure ge where
 w:Nat
 text:Zb
 y:Nat
 fin:Nat
 n:Int
 e:Nat
abbrev hy(a:ge):Array Zv:=#[Y a.w,Zs a.text,Y a.y,Y a.fin,Y a.n,Y a.e]
def iq(a:Zb)(b:Nat):ge:=match Mar.c9 (a.drop (gE a b)) (gE a b)with
 |.ok c=>⟨c.w,c.text,gE a b,gE a b+c.text.length,c.n,0⟩
 |.error d=>⟨5,[],gE a b,0,0,d.no⟩
def aea{b:Zb}{a c:Nat}(n:a<b.length)(l:a<c)(m:c<=b.length)(j:∀d (g:d<b.length),a<d->d<c->Mar.c3 b[d]=true)(k:∀f:c<b.length,Mar.c3 b[c]=false):(b.drop a).take (c-a)=Mar.a9 (b.drop a):=by
 have:=GT ⟨(b.drop a).toArray⟩ (c-a) Zm (by simp[ByteArray.size];omega) (by
  intro d g h i;have e:d<(b.drop a).length:=Zg;show Mar.c3 ((b.drop a)[d]'e)=true;grind) (by
  intro f;have e:c-a<(b.drop a).length:=by simpa[ByteArray.size]using f
  show Mar.c3 ((b.drop a)[c-a]'e)=false;grind)
 simp_all
def TX(c:Zb)(a b:Nat):(⟨c.toArray⟩:Za).extract a (a+b)=⟨((c.drop a).take b).toArray⟩:=by
 apply ByteArray.ext;simp
def Xu{a:Zb}(c:Mar.ee a=true):¬16<a.length:=by
 have:Mar.hC.all (λb=>decide (b.length<=16))=true:=Zr;grind [Mar.ee]
def TV(a:Zb)(b:Nat):(⟨a.toArray⟩:Za).extract b a.length=⟨(a.drop b).toArray⟩:=by
 apply ByteArray.ext;simp only[ByteArray.data_extract];apply Array.ext';simp[Array.toList_extract,List.extract];exact List.take_of_length_le Zq
def aev(a:UInt8):Mar.fK a=(((a.toNat:Int)==123)||((a.toNat:Int)==125)||((a.toNat:Int)==40)||((a.toNat:Int)==41)||((a.toNat:Int)==91)||((a.toNat:Int)==93)||((a.toNat:Int)==60)||((a.toNat:Int)==62)||((a.toNat:Int)==42)||((a.toNat:Int)==44)||((a.toNat:Int)==59)||((a.toNat:Int)==58)||((a.toNat:Int)==61)):=by
 have b:((a.toNat:Int)==123)=(a==123):=od a 123 Zm;have g:((a.toNat:Int)==125)=(a==125):=od a 125 Zm;have h:((a.toNat:Int)==40)=(a==40):=od a 40 Zm;have i:((a.toNat:Int)==41)=(a==41):=od a 41 Zm;have j:((a.toNat:Int)==91)=(a==91):=od a 91 Zm;have k:((a.toNat:Int)==93)=(a==93):=od a 93 Zm;have l:((a.toNat:Int)==60)=(a==60):=od a 60 Zm;have m:((a.toNat:Int)==62)=(a==62):=od a 62 Zm;have n:((a.toNat:Int)==42)=(a==42):=od a 42 Zm;have c:((a.toNat:Int)==44)=(a==44):=od a 44 Zm;have d:((a.toNat:Int)==59)=(a==59):=od a 59 Zm;have e:((a.toNat:Int)==58)=(a==58):=od a 58 Zm;have f:((a.toNat:Int)==61)=(a==61):=od a 61 Zm;rw[b,g,h,i,j,k,l,m,n,c,d,e,f];simp only[Mar.fK,List.contains_cons,List.contains_nil,Bool.or_false,Bool.or_assoc]
def Lr{a:Zb}{b:Nat}(c:b<=a.length):gE a b<=a.length:=by
 grind [gE,Mar.es,Mar.k7]
def zG(b:Nat):Except Mar.ac Mar.aU->ge
 |.ok a=>⟨a.w,a.text,b,b+a.text.length,a.n,0⟩
 |.error c=>⟨5,[],b,0,0,c.no⟩
def RA(a:Zb)(f:Nat)(p:f<=a.length)(d9:a.length<=2000)(k:Zw):Calls prog 80 #[Zs a,Y f] k λi c9=>i=.returned (.agg (hy (iq a f)))/\ap [] k c9:=by
 have H:=λc7=>Wm a f p Zm c7;have b9:=Lr p;have E:iq a f=zG (gE a f) (Mar.c9 (a.drop (gE a f)) (gE a f)):=by unfold iq zG;rfl
 generalize gE a f=b at *
 have H:=U H;rcases Yj b a.length with y|d5
 .have r:af (iq a f=if Mar.eF a[b]then zG b (Mar.ek (Mar.a9 (a.drop b)) b)else if Mar.d0 a[b]||a[b]==45 then zG b (Mar.f5 (Mar.a9 (a.drop b)) b)else if Mar.fK a[b]then ⟨4,[a[b]],b,b+1,0,0⟩else ⟨5,[],b,0,0,2⟩):=by
   show _=_;rw[E,Yk y];unfold Mar.c9;simp only;repeat' split
   all_goals rfl
  have d6:(0:Int)<=(b:Int):=Zm;have d7:(b:Int)<(a.length:Int):=Zm;have d8:((b:Int)==(a.length:Int))=false:=by rw[Yi];omega
  have d4:(⟨a.toArray⟩:Za)[b]'(by simp[ByteArray.size];exact y)=a[b]:=rfl;have b4:=U (Md a[b]);have b2:=U (EW a[b]);have F:=U (aev a[b]);have d2:((a[b].toNat:Int)==45)=(a[b]==45):=od _ 45 Ze;have a1:af ((a.drop b).take 1=[a[b]]/\∃O,Mar.a9 (a.drop b)=a[b]::O):=U ⟨by rw[Yk y];rfl,_,by rw[Yk y];rfl⟩;have a9:af ((a[b]==45)=true->a[b]=45):=U Zq;generalize b8:a[b]=m at *
  clear b8 b9 E;generalize b7:(m==45)=e at *
  generalize a5:Mar.eF m=w at *
  generalize a4:Mar.d0 m=o at *
  have b1:=U (Yp a5 a4);clear a5 a4 b7;go_in;go_wp21;refine(H.i _).mono ?_;rintro i s ⟨rfl,rfl⟩;go_wp21;refine(b4.i _).mono ?_;rintro i s ⟨rfl,rfl⟩;go_wp21;refine(b2.i _).mono ?_;rintro i s ⟨rfl,rfl⟩;go_upto_region 8 with fail;go_cut [40] (λb5 wc=>b5=.bool (w||o||e)/\k.alloc (.cells #[Y 0,.string ⟨#[]⟩,Y 0,Y 0,Y 0,Y 0] 112)=wc);case first=>cases w<;>cases o<;>cases e<;>(go_wp2;go_meet;case rel=>exact⟨rfl,rfl⟩)
  case rest=>
  obtain⟨rfl,rfl⟩:=hcut;go_upto_if 40 with fail;go_cut [6,40] (λz _ wc=>∃c,z=Y ((b+c.length:Nat):Int)/\af (c=if w||o||e then Mar.a9 (a.drop b)else [m])/\(a.drop b).take c.length=c/\c.length<=a.length-b/\k.alloc (.cells #[Y 0,.string ⟨#[]⟩,Y 0,Y 0,Y 0,Y 0] 112)=wc)
  case first=>
   cases a3:(w||o||e)with
   |false=>
    go_wp2;go_meet;case rel=>exact⟨[m],Zj,U (by simp[a3]),a1.i.1,Zx,rfl⟩
   |true=>
    go_wp21;go_loopw [6] (λz c8=>∃d:Nat,z=Y d/\b<d/\d<=a.length/\af (∀j (K:j<a.length),b<j->j<d->Mar.c3 a[j]=true)/\c8=k.alloc (.cells #[Y 0,.string ⟨#[]⟩,Y 0,Y 0,Y 0,Y 0] 112)) (λz _=>a.length-(intOf z).toNat)
    case atStart=>exact⟨b+1,Zj,Zm,y,(λj K x A=>by omega),rfl⟩
    case round=>
     obtain⟨d,rfl,c2,c1,D,rfl⟩:=hrel;have lC:af ((∀g:d<a.length,Mar.c3 a[d]=false)->∃c,(d:Int)=((b+c.length:Nat):Int)/\af (c=if w||o||e then Mar.a9 (a.drop b)else [m])/\(a.drop b).take c.length=c/\c.length<=a.length-b):=U λg=>by
      have a6:=aea y c2 c1 D.i g;have c0:d-b=(Mar.a9 (a.drop b)).length:=by rw[<-a6,YW,YI];omega
      exact⟨Mar.a9 (a.drop b),Zm,U (by simp[a3]),by rw[<-c0];exact a6,Zm⟩
     rcases Yj d a.length with a0|a0
     .have f5:(0:Int)<=(d:Int):=Zm;have d1:(d:Int)<(a.length:Int):=Zm;have d3:(⟨a.toArray⟩:Za)[d]'(by simp[ByteArray.size];exact a0)=a[d]:=rfl;have I:=Md a[d];have G:=EW a[d];have B:Mar.c3 a[d]=(Mar.eF a[d]||Mar.d0 a[d]||((a[d].toNat:Int)==95)):=by
       unfold Mar.c3;congr 1;rw[Bool.eq_iff_iff];simp;omega
      have b0:af (Mar.c3 a[d]=true->∀j (K:j<a.length),b<j->j<d+1->Mar.c3 a[j]=true):=U λg j K x A=>by
       by_cases i:j=d
       .subst i;exact g
       .exact D.i j K x Zm
      cases S:Mar.eF a[d]<;>cases J:Mar.d0 a[d]<;>cases b6:((a[d].toNat:Int)==95)<;>rw[S,J,b6]at B<;>rw[S]at I<;>rw[J]at G<;>replace I:=U I<;>replace G:=U G<;>replace B:=U B<;>clear S J D
      all_goals
       go_wp2_with (first|(refine(I.i _).mono ?_;rintro i s ⟨rfl,rfl⟩)|(refine(G.i _).mono ?_;rintro i s ⟨rfl,rfl⟩))
      .go_meet;case rel=>
        obtain⟨c,x,A,P,R⟩:=lC.i (λ_=>B.i);exact⟨c,Yo _ x,A,P,R,rfl⟩
      all_goals exact⟨⟨d+1,Zj,Zm,a0,U (b0.i B.i),trivial⟩,Zz⟩
     .have d1:¬((d:Int)<(a.length:Int)):=Zm;clear D;go_wp2;go_meet;case rel=>
       obtain⟨c,x,A,P,R⟩:=lC.i (λg=>by omega);exact⟨c,Yo _ x,A,P,R,rfl⟩
  case rest=>
  obtain⟨c,rfl,u,a8,e1,rfl⟩:=hcut;have hcut:(⟨a.toArray⟩:Za).extract b (b+c.length)=⟨c.toArray⟩:=by rw[TX,a8]
  have c5:(b:Int)<=((b+c.length:Nat):Int):=Zm;have c6:((b+c.length:Nat):Int)<=(a.length:Int):=Zm;clear a8;cases w with
  |true=>
   have b3:=U (Xt ⟨c.toArray⟩);have l:af (iq a f=zG b (Mar.ek c b)):=by show _=_;rw[r.i,u.i];rfl
   clear r u;go_wp21;refine(b3.i _).mono ?_;rintro i s ⟨rfl,rfl⟩;cases p:Mar.ee c with
   |true=>
    have h:af (iq a f=⟨2,c,b,b+c.length,0,0⟩):=by show _=_;rw[l.i];unfold Mar.ek;rw[Y2 (Xu p),Y9 p];rfl
    clear p l;go_wp2;refine bodyPost_ret (v:=.agg (hy ⟨2,c,b,b+c.length,0,0⟩)) (by simp[results,results80,go_sem]) rfl ⟨by rw[h.i],(ar [] k).A _⟩
   |false=>
    by_cases a2:16<c.length
    .have h:af (iq a f=⟨5,[],b,0,0,7⟩):=by show _=_;rw[l.i];unfold Mar.ek;rw[Y9 a2];rfl
     have c4:(16:Int)<(c.length:Int):=Zm;clear p l;go_wp2;refine bodyPost_ret (v:=.agg (hy ⟨5,[],b,0,0,7⟩)) (by simp[results,results80,go_sem]) rfl ⟨by rw[h.i],(ar [] k).A _⟩
    .have h:af (iq a f=⟨1,c,b,b+c.length,0,0⟩):=by show _=_;rw[l.i];unfold Mar.ek;rw[Y2 a2,Y2 (by rw[p];simp)];rfl
     have c4:¬((16:Int)<(c.length:Int)):=Zm;clear p l;go_wp2;refine bodyPost_ret (v:=.agg (hy ⟨1,c,b,b+c.length,0,0⟩)) (by simp[results,results80,go_sem]) rfl ⟨by rw[h.i],(ar [] k).A _⟩
  |false=>
   cases t:(o||e)with
   |true=>
    obtain⟨O,q⟩:=a1.i.2;have M:c=m::O:=by rw[u.i,Y9 (by simpa using t)];exact q
    have a7:Mar.f1 c=iu (if e then c.tail else c) e:=by
     cases e with
     |true=>rw[M,a9.i rfl];exact abG O
     |false=>rw[M];exact abI (b1.i.2.trans (by simpa using t))
    have J:(⟨c.toArray⟩:Za).extract 1 c.length=⟨c.tail.toArray⟩:=by
     have i:=TV c 1;rw[List.drop_one]at i;exact i
    have e0:(1:Int)<=(c.length:Int):=by rw[M];simp;omega
    have n:=abJ (if e then c.tail else c) e (by split<;>(try simp)<;>omega)
    have l:af (iq a f=match iu (if e then c.tail else c) e with|some N=>⟨3,c,b,b+c.length,N,0⟩|none=>⟨5,[],b,0,0,4⟩):=by
     show _=_;rw[r.i];have g:=u.i;rw[Y9 (by simpa using t)]at g;rw[Y2 Zq,Y9 t,<-g];unfold Mar.f5;rw[a7];cases iu (if e then c.tail else c) e<;>rfl
    clear a7 M r u q;cases q:iu (if e then c.tail else c) e with
    |none=>
     rw[q]at n;have h:af (iq a f=⟨5,[],b,0,0,4⟩):=by show _=_;rw[l.i,q]
     replace n:=U n;clear q l;have c3:(none:Option Int).isSome=false:=rfl;cases e<;>cases o<;>(try cases t)<;>(go_wp2_with (refine(n.i _).mono ?_;rintro i s ⟨rfl,N,rfl,L⟩;clear n L);exact bodyPost_ret (v:=.agg (hy ⟨5,[],b,0,0,4⟩)) (by simp[results,results80,go_sem]) rfl ⟨by rw[h.i],(ar [] k).A _⟩)
    |some v=>
     rw[q]at n;have h:af (iq a f=⟨3,c,b,b+c.length,v,0⟩):=by show _=_;rw[l.i,q]
     replace n:=U n;clear q l;have c3:∀d0:Int,(some d0).isSome=true:=λ_=>rfl;cases e<;>cases o<;>(try cases t)<;>(go_wp2_with (refine(n.i _).mono ?_;rintro i s ⟨rfl,N,rfl,L⟩;obtain rfl:=L v rfl;clear n L);exact bodyPost_ret (v:=.agg (hy ⟨3,c,b,b+c.length,N,0⟩)) (by simp[results,results80,go_sem]) rfl ⟨by rw[h.i],(ar [] k).A _⟩)
   |false=>
    obtain⟨rfl,rfl⟩:o=false/\e=false:=by simpa using t
    obtain rfl:c=[m]:=u.i;simp only[List.length_singleton]at hcut c5 c6 ⊢;cases C:Mar.fK m with
    |true=>
     have h:af (iq a f=⟨4,[m],b,b+1,0,0⟩):=by show _=_;rw[r.i,C];rfl
     clear r;go_wp2;all_goals
      first
       |(exfalso;have g:=F.i;rw[C]at g;simp only[*, Bool.or_self]at g;done)
       |(exfalso;have g:=F.i;rw[C]at g;simp only[*, Bool.or_self, Bool.true_eq_false, reduceCtorEq]at g;done)
       |exact bodyPost_ret (v:=.agg (hy ⟨4,[m],b,b+1,0,0⟩)) (by simp[results,results80,go_sem]) rfl ⟨by rw[h.i],(ar [] k).A _⟩
    |false=>
     have h:af (iq a f=⟨5,[],b,0,0,2⟩):=by show _=_;rw[r.i,C];rfl
     have g:=F.i;rw[C]at g;simp only[Bool.false_eq,Bool.or_eq_false_iff]at g;obtain⟨⟨⟨⟨⟨⟨⟨⟨⟨⟨⟨⟨e2,e7⟩,e8⟩,e9⟩,f0⟩,f1⟩,f2⟩,f3⟩,f4⟩,e3⟩,e4⟩,e5⟩,e6⟩:=g;clear r F;go_wp2;refine bodyPost_ret (v:=.agg (hy ⟨5,[],b,0,0,2⟩)) (by simp[results,results80,go_sem]) rfl ⟨by rw[h.i],(ar [] k).A _⟩
 .have h:af (iq a f=⟨0,[],a.length,a.length,0,0⟩):=by
   show _=_;rw[E,show b=a.length by omega,List.drop_length];rfl
  obtain rfl:b=a.length:=Zm;clear E;go_in;go_wp21;refine(H.i _).mono ?_;rintro i s ⟨rfl,rfl⟩;go_wp2;refine bodyPost_ret (v:=.agg (hy ⟨0,[],a.length,a.length,0,0⟩)) (by simp[results,results80,go_sem]) rfl ⟨by rw[h.i],(ar [] k).A _⟩
def FH(c:Zw)(a:Nat):Nat:=match c.cell? (Zd a 2)with
 |some (.slice _ b _)=>b
 |_=>0
theorem Xc:(prog.info? 223).map (λa=>(a.zero,a.size,a.bytes))=some (some (.pointer none),1,8):=Zk
theorem aaf{e b}{g h:List (Int×Int)}{f l:St}{i:Zb×Nat×Int}(a:kY e b g f=.ok (i,h,l)):b<12:=by
 rcases Yj b 12 with c|c
 .exact c
 .exfalso;unfold kY at a;cases d:ht e f with
  |error n=>rw[fc (im d)]at a;cases a
  |ok j=>
   obtain⟨k,m⟩:=j;rw[dZ (gF d),fc (im (show gT b 12 k.y m=_ from Y9 c))]at a;cases a
theorem Mb{c:Zw}{a b g:Nat}{e f:Zv}{ad d}(h:c.heap[a]?=some (.cells #[e,f,.slice ad b g] d)):FH c a=b:=by
 obtain⟨_,_,i,_⟩:=Ex h;unfold FH;rw[i]
theorem Vi{f i q}(o:Nat){y}(h:Rd f i q y):Calls prog 121 #[Zp f.R,Y o] y (ve 227 [f.R,f.S,f.N] f i y (kS i o q)):=by
 have c3:=jT;have c4:=nN;have a:=U (yH h);have d:af (kS i o q=aN (kD o) _ q):=U rfl;go_in;go_wp21;refine cM a d (Ch _ ·) λx d1 c5 d a=>?_;go_wp21;refine cM a d (xy ·) λk d2 C d a=>?_;dsimp only[jB];have a:=U ((a.i.A (.cells #[.string ⟨k.1.toArray⟩,Y k.2,.slice none 0 0] 253)).nil 223 1);go_wp21;refine cM a d (hq _ ·) λc7 b3 H d a=>?_;have a:=U (a.i.A (.map #[] 0));go_wp2;go_loopw [7] (λg x=>∃(p:Bool) (c:List (Zb×Nat×Int)) (n:List Nat) (v:List (Int×Int)) (w:Zv) (z:St) (r:Zo),g=.bool p/\c.length<=12/\
   af (bF [f.R,f.S,f.N] [] f i (λ(_:Unit) _=>True) () [.obj H.heap.size (lG v),.row 223 1 w c.length (n.map λg=>Zp g),.obj C.heap.size (.cells #[.string ⟨k.1.toArray⟩,Y k.2,w] 253)] r z y x)/\
   af (n.length=c.length/\∀b (h:b<c.length) (t:b<n.length),Ay r n[b] c[b])/\af (kS i o q=(if p then kC i k (13-c.length) c v else qn i k c) z)) (λ_ x=>13-FH x C.heap.size)
 case atStart=>exact⟨true,[],[],[],_,b3,[],rfl,Zq,a,U ⟨rfl,Zq⟩,d⟩
 case round=>
  obtain⟨p,c,n,v,w,z,r,rfl,c1,a,s,d⟩:=hrel;cases p with
  |false=>
   go_wp21;refine cM a d (hq _ ·) λc8 b4 I d a=>?_;go_wp21;refine cM a d (hq _ ·) λc9 b5 b1 d a=>?_;go_wp2;go_ret;obtain⟨b7,m,S,a7⟩:=a.i.au.gL Zm;exact⟨m.kp,Y8 ⟨.enum k.1 k.2 c,b5,_,_,d.i,rfl,m.c6.fin,⟨w,n,Yb,s.i.1,S.aZ λ_ h=>Y5 _ h,λb h t=>Y5 _ (a7 _ (s.i.2 b h t))⟩,m.c6.br,rfl⟩⟩
  |true=>
   obtain⟨ad,M,rfl⟩:=aW (a.i.th (i:=1) rfl);have K:=Mb (a.i.th (i:=2) rfl);go_wp21;have a:=U a.i.ag;have J:af (13-c.length=(12-c.length)+1):=by show _=_;omega
   have d:af (kS i o q=kC i k ((12-c.length)+1) c v z):=U (by rw[<-J.i];exact d.i);refine bJ (λb0=>b0.cell? (Zd C.heap.size 2)=some (.slice ad c.length M)) ?_ λA=>?_
   .exact aC (a.i.th (i:=2) rfl) rfl
   refine bf [0,1,2,3,4,5,6,7,8,9,10,11] ?_;iterate 12 (refine bi ?_)
   refine bg ?_;refine bI 12 λl e=>?_;(go_simp;refine(aae c.length a.i.rd (a.i.bV (i:=0) rfl rfl) (a.i.th (i:=0) rfl)).mono ?_;rintro b9 I ⟨F,⟨m,G,b4,g,u,rfl,a6,a4,a3⟩|⟨O,u,g,a0,rfl,a1⟩⟩;rotate_left;exact wn ⟨a.i.i6 (i:=0) rfl F (by simp[Ad.a3,Th.aH]),Ya ⟨O,d.i.trans (wa u),g,Yz a.i.kp.aG a0,rfl,a1⟩⟩;have a:=U ((a.i.f4 (i:=0) (a':=.obj H.heap.size (lG G)) rfl F a6 a4 (λ_ h=>h) (by simp[Ad.a3,Th.aH])).iC a3);have b2:=aC (a.i.th (i:=2) rfl) (i:=2) rfl);refine e.out _ _ ?_ (λA=>?_)
   .go_keep
   clear e l;refine nz ?_;have a:=U (a.i.A (.cells #[Zp g] 223));refine bI 13 λl e=>?_;go_simp;refine e.out _ _ ?_ (λA=>?_)
   .go_keep
   clear e l;refine nz ?_;refine bI 14 λl e=>?_;(refine mh Xc underlying251 (a.i.th (i:=2) rfl) [Zp g] (heap_alloc_new I _) Zy Zm (YV _) rfl ?_;intro E D b1 a5 a2 P c2;have a:=U (a.i.a4 (i:=2) rfl a5 a2 P rfl);have b2:=aC (a.i.th (i:=3) rfl) (i:=2) rfl);refine e.out _ _ ?_ (λA=>?_)
   .go_keep
   clear e l;refine nz ?_;have d0:=bl (a.i.th (i:=3) rfl);refine bf [15,16] ?_;iterate 2 (refine bi ?_)
   refine bg ?_;refine bL λl e=>?_;go_simp;refine e.out _ _ ?_;clear e l;refine nz ?_;have a:=U (a.i.aq (i:=3) (j:=2) rfl (.slice (some ⟨E,0,none⟩) (c.length+1) D)).au;have d:=U (d.i.trans (wb u));go_wp21;refine cM a d (pq _ ·) λp b6 c6 d a=>?_;have L:=Mb (a.i.th (i:=2) rfl);have c0:=aaf u;go_wp2;refine⟨⟨p,c++[m],n++[g],G,.slice (some ⟨E,0,none⟩) (c.length+1) D,b6,[(g,EL m)]++r,rfl,Zx,U (by simpa using a.i),U ⟨by simp[s.i.1],λb h t=>?_⟩,U (d.i.trans ?_)⟩,by rw[K,L];omega⟩
   .obtain⟨a8,a9⟩:=s.i;simp only[Yq,List.length_singleton]at h t;rcases Yj b c.length with B|B
    .rw[List.getElem_append_left B,List.getElem_append_left Zm];exact Y5 _ (a9 b B Zm)
    .obtain rfl:b=c.length:=Zm;simp[Ay,EL,<-a8]
   .rw[show 13-(c++[m]).length=12-c.length by simp]
section
variable {a:Type}
abbrev AK(a:Ad)(d:Za)(c:List Th)(b:Zo)(g:St)(f e:Zw):Prop:=bF [a.R,a.S,a.N] [] a d (λ(_:Unit) _=>True) () c b g f e
def yB(j:List Nat)(g:Zw)(i:a->St->Zw->Prop)(e:Except Mar.ac (Unit×a×St))(d:Ending)(c:Zw):Prop:=
 ap j g c/\((∃f h,e=.ok ((),f,h)/\d=.returned (.tuple #[])/\i f h c)\/(∃b,e=.error b/\eH g b.no b.y d c))
structure AJ(a:Type){τ':Type}(M F:List Nat)(A:Ad)(text:Za)(J:τ'->Zw->Prop)(t0:τ')(w:Zw)(rH:Nat) where
 f:Nat
 id:Array Zv
 a9:PX a Unit
 T:Nat->a->List Th->Zo->Prop
 d2:∀(args:Array Zv) (u:Zw),(callFunc f args).run prog u=.ok (.enter f args) u
 call:∀{n t σ u L H},n<rH->T n t L H->bF M F A text J t0 L H σ w u->Calls prog f id u (yB M w (λt σ u=>∃L H,T (n+1) t L H/\bF M F A text J t0 L H σ w u) (a9 t σ))
def mi(c:Za)(rH:Nat)(run:PX a Unit):Nat->Nat->PX a Unit
 |0,_=>lift (hZ 0 0)
 |k+1,b=>aQ (if b=0 then eJ false else lift (el c [125])) λe=>if e then eJ ()else
   aQ (lift (ht c)) λd=>aQ (lift (gT b rH d.y)) λ_=>aQ run λ_=>mi c rH run k (b+1)
def ih(b:Za)(rH:Nat)(run:PX a Unit):PX a Unit:=aQ (lift (cu b Jv)) λ_=>mi b rH run (rH+2) 0
def rr(c:Za)(rH:Nat)(run:PX a Unit)(d b:Nat):PX a Unit:=
 aQ (lift (ht c)) λe=>aQ (lift (gT b rH e.y)) λ_=>aQ run λ_=>mi c rH run d (b+1)
def Eu{E:Type}{l m:List Nat}{j:Ad}{e:Za}{q:E->Zw->Prop}{u:E}{o:Zw}(rH:Nat)(d:AJ a l m j e q u o rH){t:a}{g:St}{n:Zw}{i:List Th}{h:Zo}(a8:rH<=1000)(a5:j.S∈l/\j.S ∉ m)(L:d.T 0 t i h)(v:bF l m j e q u i h g o n):Calls prog 195 #[Zp j.R,Y rH,.func (.func d.f) #[] d.id] n (yB l o (λt g n=>∃b≤rH,∃i h,d.T b t i h/\bF l m j e q u i h g o n) (ih e rH d.a9 t g)):=by
 have a6:=d.d2;have a7:=Lm;have f:=U v;have c:af (ih e rH d.a9 t g=aQ (lift (cu e _)) _ t g):=U rfl;go_in;go_wp21;refine cM f c (hq _ ·) λy b4 a9 c f=>?_;dsimp only[dH];go_wp2;go_loopw [6] (λx a1=>∃(b:Nat) (k:a) (p:St) (i:List Th) (h:Zo),x=Y b/\b<=rH/\af (d.T b k i h)/\af (bF l m j e q u i h p o a1)/\af (ih e rH d.a9 t g=mi e rH d.a9 (rH+2-b) b k p)) (λx _=>rH+1-(intOf x).toNat)
 case atStart=>exact⟨0,_,_,_,_,rfl,Zm,U L,f,c⟩
 case round=>
  obtain⟨b,k,p,i,h,rfl,a0,r,f,c⟩:=hrel;rw[show rH+2-b=(rH+1-b)+1 by omega]at c;by_cases s:b=0;case' pos=>
   have K:((b:Int)==0)=true:=by simp[s]
   replace c:af (ih e rH d.a9 t g=rr e rH d.a9 (rH+1-b) b k p):=U (c.i.trans (by simp only[mi,Y9 s];rfl));clear s
  case' neg=>
   have K:((b:Int)==0)=false:=Zx;replace c:af (ih e rH d.a9 t g=aQ (lift (el e Jl)) (λz=>if z then eJ ()else rr e rH d.a9 (rH+1-b) b) k p):=U (c.i.trans (by simp only[mi,Y2 s];rfl))
   go_wp21;refine cM f c (pq _ ·) λz a2 b0 c f=>?_;cases z
   case' true=>
    go_wp2;go_end0;exact⟨f.i.kp,Y8 ⟨k,a2,c.i,rfl,b,a0,_,_,r.i,f.i⟩⟩
  all_goals
   replace c:af (_=aQ (lift (ht e)) (λy=>aQ (lift (gT b rH y.y)) λ_=>aQ d.a9 λ_=>mi e rH d.a9 (rH+1-b) (b+1)) k _):=c;have a3:=f.i.fin.K.1;go_wp21;refine cM f c (Cy ·) λy b5 b1 c f=>?_;dsimp only[dH];go_wp21;refine ya f c (CM _ _ _ ·) λn b6 b2 H c f=>?_;have P:b<rH:=Nat.lt_of_not_le λv=>by cases (Y9 v).symm.trans H.i
   go_wp21;refine(d.call P r.i f.i).mono ?_;rintro a4 b3 ⟨O,⟨C,D,w,rfl,G,F,B,A⟩|⟨J,w,I,M,rfl,N⟩⟩;rotate_left
   .exact wn ⟨O,Ya ⟨J,c.i.trans (fc w),I,M,rfl,N⟩⟩
   have f:=U A;have r:=U B;have c:af (ih e rH d.a9 t g=mi e rH d.a9 (rH+2-(b+1)) (b+1) C D):=U (c.i.trans ((dZ w).trans (by rw[show rH+2-(b+1)=rH+1-b by omega])));clear A B;go_wp2;exact⟨⟨b+1,C,D,G,F,Zj,Zm,r,f,c⟩,Zz⟩
end
section
variable {b:Zc}{c:Nat}{a:Zw}
def AT(a:Zw):Calls prog 194 #[] a λb c=>b=.returned (cQ a.heap.size (a.heap.size+1)).v/\c=(a.alloc (.map #[] 0)).alloc (.cells #[.map (some a.heap.size)] 103):=by
 have e:=nN;have d:=jT;go_in;go_wp2;go_ret;exact⟨rfl,rfl⟩
def oj(b:Zc)(c:Obj):Prop:=b.Nodup/\∃a:Zl,a.length=b.length/\c=uA (b.zip a)
def oj.y{d}(e:oj b d)(g:a.heap[c]?=some d):hO c b a:=by
 obtain⟨h,i,f,rfl⟩:=e;exact⟨h,i,f,g⟩
def hO.obj(e:hO c b a):∃d,a.heap[c]?=some d/\oj b d:=by
 obtain⟨h,i,f,g⟩:=e;exact⟨_,g,h,i,f,rfl⟩
def AM:oj [] (.map #[] 0):=⟨Zq,[],rfl,rfl⟩
end
section
structure vu where
 D:Nat
 rb:Nat
 db:Nat
 cb:Nat
 q:Nat
 bx:Nat
section
variable {l : Type} {d f : List Nat} {a : Ad} {e : Za} {i : l -> Zw -> Prop} {j : l} {k : St} {b : List Th} {h : List (Nat × Obj)} {c g : Zw}
def CZ{E N:Type}{y x:Except Mar.ac N}{C}{G:E->Zc->St->Except Mar.ac N}{H}{l m z:Nat}{L M args}{Q:Ending->Zw->Prop}(K:Nat)
  (q:af (bF d f a e i j b h k g c)) (F:af (y=x)) (a1:oj M L) (a2:(z,Obj.cells #[.map (some m)] 103)∈h)
  (O:sk (cQ m z) (a.a3 (dY b)) e->Rd (a.a3 (dY b)) e k c->hO m M c->dF (a.a3 (dY b)).X (cQ m z).bs c->Calls prog l args c (lW [a.S,m] (a.a3 (dY b)) e c C H (hO m)))
  (ok:∀o r s t n,oj r t->af (y=G o r s)->af (bF d f a e i j (b.set K (.obj m t)) h s g n)->Q (.returned (H o)) n)
  (R:∀o r s,C=.ok (o,r,s)->x=G o r s) (a0:∀l,C=.error l->x=.error l)
  (w:b[K]?=some (.obj m L):=by rfl) (v:a.S∈d/\a.S ∉ f:=by simp)
  (P:∀{u:Nat} {n:Zw},ap d g n/\(∃l,y=.error l/\eH g l.no l.y (hb u) n)->Q (hb u) n:=by first|exact λp=>bM ⟨p.1,Ya p.2⟩|exact λp=>wn ⟨p.1,Ya p.2⟩):Calls prog l args c Q:=by
 have v:∀D∈[a.S,m],D∈d/\D ∉ f\/some m=some D:=by simp[v]
 refine(O (EF (q.i.bV w rfl)) q.i.rd (a1.y (q.i.th w)) λa8 J=>by simp only[cQ,Yc]at J;subst J;exact q.i.da _ a2).mono ?_;rintro a7 n ⟨I,⟨o,r,s,B,rfl,a6,A⟩|⟨l,B,u,a3,rfl,a4⟩⟩
 .obtain⟨t,a5,A⟩:=hO.obj A;exact ok o r s t n A (U (F.i.trans (R _ _ _ B))) (U (q.i.f4 w I a6 (a':=.obj m t) a5 (λ_ p=>p) v))
 .exact P ⟨q.i.i6 w I v,l,F.i.trans (a0 _ B),u,Yz q.i.kp.aG a3,rfl,a4⟩
end
end
section
variable {a:Nat}{b:Int}{d:Zb}{c:Zw}
structure yG where
 rv:Zv
 nv:Zv
 pv:Zv
 i:Zb
 ax:Int
 an:Int
 gv:Zv
abbrev qE(d:Zb)(c:ge)(e b:Int)(a:yG):Obj:=.cells #[Zs d,Y c.w,Zs c.text,Y c.y,Y c.fin,Y c.n,Y c.e,a.rv,a.nv,a.pv,Zs a.i,Y e,Y b,Y a.ax,Y a.an,a.gv] 114
def aeq{f c:ge}{g e}{h:Zw}(j:h.heap[a]?=some (qE d f g b e)):((((((h.setCell ⟨a,1,none⟩ (Y c.w)).setCell ⟨a,2,none⟩ (Zs c.text)).setCell ⟨a,3,none⟩ (Y c.y)).setCell ⟨a,4,none⟩ (Y c.fin)).setCell ⟨a,5,none⟩ (Y c.n)).setCell ⟨a,6,none⟩ (Y c.e)).heap[a]?=some (qE d c g b e):=by
 have k:(h.setCell ⟨a,1,none⟩ (Y c.w)).heap[a]?=some (.cells #[Zs d,Y c.w,Zs f.text,Y f.y,Y f.fin,Y f.n,Y f.e,e.rv,e.nv,e.pv,Zs e.i,Y g,Y b,Y e.ax,Y e.an,e.gv] 114):=ci (i:=1) j _;have l:((h.setCell ⟨a,1,none⟩ (Y c.w)).setCell ⟨a,2,none⟩ (Zs c.text)).heap[a]?=some (.cells #[Zs d,Y c.w,Zs c.text,Y f.y,Y f.fin,Y f.n,Y f.e,e.rv,e.nv,e.pv,Zs e.i,Y g,Y b,Y e.ax,Y e.an,e.gv] 114):=ci (i:=2) k _;have m:(((h.setCell ⟨a,1,none⟩ (Y c.w)).setCell ⟨a,2,none⟩ (Zs c.text)).setCell ⟨a,3,none⟩ (Y c.y)).heap[a]?=some (.cells #[Zs d,Y c.w,Zs c.text,Y c.y,Y f.fin,Y f.n,Y f.e,e.rv,e.nv,e.pv,Zs e.i,Y g,Y b,Y e.ax,Y e.an,e.gv] 114):=ci (i:=3) l _;have o:((((h.setCell ⟨a,1,none⟩ (Y c.w)).setCell ⟨a,2,none⟩ (Zs c.text)).setCell ⟨a,3,none⟩ (Y c.y)).setCell ⟨a,4,none⟩ (Y c.fin)).heap[a]?=some (.cells #[Zs d,Y c.w,Zs c.text,Y c.y,Y c.fin,Y f.n,Y f.e,e.rv,e.nv,e.pv,Zs e.i,Y g,Y b,Y e.ax,Y e.an,e.gv] 114):=ci (i:=4) m _;have p:(((((h.setCell ⟨a,1,none⟩ (Y c.w)).setCell ⟨a,2,none⟩ (Zs c.text)).setCell ⟨a,3,none⟩ (Y c.y)).setCell ⟨a,4,none⟩ (Y c.fin)).setCell ⟨a,5,none⟩ (Y c.n)).heap[a]?=some (.cells #[Zs d,Y c.w,Zs c.text,Y c.y,Y c.fin,Y c.n,Y f.e,e.rv,e.nv,e.pv,Zs e.i,Y g,Y b,Y e.ax,Y e.an,e.gv] 114):=ci (i:=5) o _;have q:((((((h.setCell ⟨a,1,none⟩ (Y c.w)).setCell ⟨a,2,none⟩ (Zs c.text)).setCell ⟨a,3,none⟩ (Y c.y)).setCell ⟨a,4,none⟩ (Y c.fin)).setCell ⟨a,5,none⟩ (Y c.n)).setCell ⟨a,6,none⟩ (Y c.e)).heap[a]?=some (.cells #[Zs d,Y c.w,Zs c.text,Y c.y,Y c.fin,Y c.n,Y c.e,e.rv,e.nv,e.pv,Zs e.i,Y g,Y b,Y e.ax,Y e.an,e.gv] 114):=ci (i:=6) p _;omega
def kA(a b d c:Int):Int×Int:=if a=0 then (d,c)else (a,b)
def Bt{o e m}(h:c.heap[a]?=some (qE d o e b m))(g f:Int):Calls prog 51 #[Zp a,Y g,Y f] c λq n=>q=.returned (.tuple #[])/\n.heap[a]?=some (qE d o (kA e b g f).1 (kA e b g f).2 m)/\ap [a] c n:=by
 have s:c.cell? (Zd a 11)=some (Y e):=aC h rfl;have t:c.cell? (Zd a 12)=some (Y b):=aC h rfl;have v:=bl h;have w:=ay h;have l:=U h;by_cases k:e=0
 .have j:af (kA e b g f=(g,f)):=Y9 k;subst k;go_in;go_wp2;go_end0;rw[j.i];have r:=ci (i:=11) l.i (Y g);refine⟨rfl,ci (i:=12) r (Y f),((ar [a] c).a6 (p:=⟨a,11,none⟩) Zq _).a6 (p:=⟨a,12,none⟩) Zq _⟩
 .have j:af (kA e b g f=(e,b)):=Y2 k;have u:(e==0)=false:=Zu;go_in;go_wp2;go_end0;rw[j.i];exact⟨rfl,l.i,ar ..⟩
def rq(a:ge)(c b:Int):Int×Int:=if a.w=5 then kA c b a.e a.y else kA c b 3 a.y
def AV{e f m}(g:c.heap[a]?=some (qE d e f b m)):Calls prog 84 #[Zp a] c λl o=>l=.returned (.tuple #[])/\o.heap[a]?=some (qE d e (rq e f b).1 (rq e f b).2 m)/\ap [a] c o:=by
 have y:c.cell? (Zd a 1)=some (Y e.w):=aC g rfl;have z:c.cell? (Zd a 3)=some (Y e.y):=aC g rfl;have A:c.cell? (Zd a 6)=some (Y e.e):=aC g rfl;have C:=bl g;have D:=ay g;have u:c.drew.heap[a]?=some (qE d e f b m):=g;have q:=U (Bt u e.e e.y);have r:=U (Bt g 3 e.y);by_cases n:e.w=5
 .have k:af (rq e f b=kA f b e.e e.y):=Y9 n;have t:((e.w:Int)==5)=true:=Zu;go_in;go_wp21;refine bJ (λp=>p.cell? (Zd a 3)=some (Y e.y)/\p.cell? (Zd a 6)=some (Y e.e)) ?_ λB=>?_
  .go_keep
  refine bf [0,1,2,3,4,5,6,7,8,9,10] ?_;iterate 11 (refine bi ?_)
  refine bg ?_;refine bL λx s=>?_;(go_simp;refine q.i.mono ?_;rintro l w ⟨rfl,i,j⟩;have h:=U (Yp i (((ar [a] c).ag).u j));clear i j);refine s.out _ _ ?_;refine nz ?_;go_wp2;refine bodyPost_ret (v:=.tuple #[]) (by simp[results,results84]) rfl ?_;rw[k.i];exact⟨rfl,h.i.1,h.i.2⟩
 .have k:af (rq e f b=kA f b 3 e.y):=Y2 n;have t:((e.w:Int)==5)=false:=Zg;go_in;go_wp21;refine r.i.mono ?_;rintro l w ⟨rfl,i,j⟩;have h:=U (Yp i j);go_wp2;go_end0;rw[k.i];exact⟨rfl,h.i.1,h.i.2⟩
def Cn{e m q}(h:c.heap[a]?=some (qE d e m b q))(z:e.fin<=d.length)(y:d.length<=2000):Calls prog 47 #[Zp a] c λo r=>o=.returned (.tuple #[])/\r.heap[a]?=some (qE d (iq d e.fin) m b q)/\ap [a] c r:=by
 have v:c.cell? (Zd a 0)=some (Zs d):=aC h rfl;have w:c.cell? (Zd a 4)=some (Y e.fin):=aC h rfl;have F:=bl h;have I:=ay h;have u:=U (RA d e.fin z y c.drew);have k:=U h;generalize iq d e.fin=J at *
 go_in;go_wp21;refine bJ (λs=>s.cell? (Zd a 0)=some (Zs d)/\s.cell? (Zd a 4)=some (Y e.fin)) ?_ λx=>?_
 .go_keep
 refine bf [0,1,2,3,4,5,6,7,8,9] ?_;iterate 10 (refine bi ?_)
 refine bg ?_;refine bI 10 λt i=>?_;(go_simp;go_at_call 80;refine u.i.mono ?_;rintro o g ⟨rfl,j⟩;have f:g.heap[a]?=_:=(j.ak _ (ay k.i) Zq).trans k.i;have v:g.cell? (Zd a 0)=some (Zs d):=aC f rfl;have A:g.cell? (Zd a 1)=some (Y e.w):=aC f rfl;have B:g.cell? (Zd a 2)=some (Zs e.text):=aC f rfl;have C:g.cell? (Zd a 3)=some (Y e.y):=aC f rfl;have w:g.cell? (Zd a 4)=some (Y e.fin):=aC f rfl;have D:g.cell? (Zd a 5)=some (Y e.n):=aC f rfl;have E:g.cell? (Zd a 6)=some (Y e.e):=aC f rfl;have G:=bl f;have H:=ay f;have l:=U (Yp f ((((ar [] c).ag).u j)));clear f j);refine i.out _ _ ?_ (λx=>?_)
 .go_keep
 refine nz ?_;refine bf [11,12] ?_;iterate 2 (refine bi ?_)
 refine bg ?_;refine bL λt i=>?_;go_simp;refine i.out _ _ ?_;refine nz ?_;go_end0;exact⟨rfl,aeq l.i.1,(((((((l.i.2.aZ Zq).a6 (p:=⟨a,1,none⟩) Zq _).a6 (p:=⟨a,2,none⟩) Zq _).a6 (p:=⟨a,3,none⟩) Zq _).a6 (p:=⟨a,4,none⟩) Zq _).a6 (p:=⟨a,5,none⟩) Zq _).a6 (p:=⟨a,6,none⟩) Zq _)⟩
def kT(a:ge)(b:Int)(c:Nat)(d:Zb):Bool:=(b==0)&&((a.w==c)&&(a.text==d))
def FC{e g o}(j:c.heap[a]?=some (qE d e g b o))(f:Nat)(h:Zb):Calls prog 81 #[Zp a,Y f,Zs h] c λn p=>n=.returned (.bool (kT e g f h))/\p=c:=by
 have r:c.cell? (Zd a 11)=some (Y g):=aC j rfl;have q:c.cell? (Zd a 1)=some (Y e.w):=aC j rfl;have s:c.cell? (Zd a 2)=some (Zs e.text):=aC j rfl;have t:=bl j;have u:=ay j;by_cases k:g=0
 .subst k;by_cases l:e.w=f
  .have i:af (kT e 0 f h=(e.text==h)):=by show _=_;simp[kT,l]
   have m:((e.w:Int)==(f:Int))=true:=Zu;go_in;go_wp2;all_goals
    go_ret;refine⟨pJ ?_,rfl⟩;rw[i.i];try (first|rfl|simp_all)
  .have i:af (kT e 0 f h=false):=by show _=_;simp[kT,l]
   have m:((e.w:Int)==(f:Int))=false:=Zg;go_in;go_wp2;go_ret;exact⟨by rw[i.i];rfl,rfl⟩
 .have i:af (kT e g f h=false):=by show _=_;simp[kT,k]
  have m:(g==0)=false:=Zu;go_in;go_wp2;go_ret;exact⟨by rw[i.i];rfl,rfl⟩
end
section
variable {f b:Nat}{h:TypeId}{r q o m l j d0 d1 d2 d3 d4 d5:Zv}{k:yG}{d:Zb}{c g:Zw}
def Ck{a:Nat}(c:a<=d.length):(iq d a).fin<=d.length:=by
 have f:=Lr c;unfold iq;cases b:Mar.c9 (d.drop (gE d a)) (gE d a)with
 |error e=>simp
 |ok g=>
  have:=Fg b;grind
structure oi where
 x:ge
 e:Int
 a:Int
def dE:ge:=⟨0,[],0,0,0,0⟩
def wk(d:Zb)(a:oi):oi:={ a with x:=iq d a.x.fin }
def oq(b:oi):oi:=⟨b.x,(rq b.x b.e b.a).1,(rq b.x b.e b.a).2⟩
def sg(d:Zb)(a:oi)(b:Nat)(c:Zb):oi:=if kT a.x a.e b c then wk d a else oq a
def lT(d:Zb)(a:oi):ge×oi:=if a.e≠0 then (dE,a)else if a.x.w=1 then (a.x,wk d a)else (dE,oq a)
abbrev qD(d:Zb)(b:oi)(k:yG):Obj:=qE d b.x b.e b.a k
def Ip(f:Nat)(d:Zb)(a:oi)(k:yG)(v:Zv)(c:Zw)(e:Ending)(b:Zw):Prop:=e=.returned v/\b.heap[f]?=some (qD d a k)/\ap [f] c b/\a.x.fin<=d.length
def PS{a}(n:c.heap[f]?=some (qD d a k))(s:a.x.fin<=d.length)(t:d.length<=2000)(g:Nat)(h:Zb):Calls prog 141 #[Zp f,Y g,Zs h] c (Ip f d (sg d a g h) k (.tuple #[]) c):=by
 have b:=U (FC n g h);have p:=U (AV n);have q:=U (Cn n s t);clear n;cases l:kT a.x a.e g h with
 |true=>
  have o:af (sg d a g h=wk d a):=Y9 l;rw[l]at b;clear l p;go_in;go_wp21;refine b.i.mono ?_;rintro r u ⟨rfl,rfl⟩;go_wp21;refine q.i.mono ?_;rintro r w ⟨rfl,j,m⟩;have i:=U (Yp j m);clear j m q b;go_wp2;go_end0;rw[o.i];exact⟨rfl,i.i.1,i.i.2,Ck s⟩
 |false=>
  have o:af (sg d a g h=oq a):=Y2 Zu;rw[l]at b;clear l q;go_in;go_wp21;refine b.i.mono ?_;rintro r u ⟨rfl,rfl⟩;go_wp21;refine p.i.mono ?_;rintro r w ⟨rfl,j,m⟩;have i:=U (Yp j m);clear j m p b;go_wp2;refine bodyPost_ret (v:=.tuple #[]) (by simp_all[results]) rfl ?_;rw[o.i];exact⟨rfl,i.i.1,i.i.2,s⟩
def fs(a:g.heap[b]?=some (.cells #[r,q,o,m,l,j] h)):g.cell? (Zd b 0)=some r/\g.cell? (Zd b 1)=some q/\g.cell? (Zd b 2)=some o/\g.cell? (Zd b 3)=some m/\g.cell? (Zd b 4)=some l/\g.cell? (Zd b 5)=some j/\(∀c,g.frozen? ⟨b,c,none⟩=false)/\b<g.heap.size:=by
 refine⟨?_,?_,?_,?_,?_,?_,?_,ay a⟩<;>simp[World.cell?,World.frozen?,a]
def zW(a:g.heap[b]?=some (.cells #[r,q,o,m,l,j] h)):((((((g.setCell ⟨b,0,none⟩ d0).setCell ⟨b,1,none⟩ d1).setCell ⟨b,2,none⟩ d2).setCell ⟨b,3,none⟩ d3).setCell ⟨b,4,none⟩ d4).setCell ⟨b,5,none⟩ d5).heap[b]?=some (.cells #[d0,d1,d2,d3,d4,d5] h):=by
 have c:(g.setCell ⟨b,0,none⟩ d0).heap[b]?=some (.cells #[d0,q,o,m,l,j] h):=ci (i:=0) a d0;have d:((g.setCell ⟨b,0,none⟩ d0).setCell ⟨b,1,none⟩ d1).heap[b]?=some (.cells #[d0,d1,o,m,l,j] h):=ci (i:=1) c d1;have e:(((g.setCell ⟨b,0,none⟩ d0).setCell ⟨b,1,none⟩ d1).setCell ⟨b,2,none⟩ d2).heap[b]?=some (.cells #[d0,d1,d2,m,l,j] h):=ci (i:=2) d d2;have f:((((g.setCell ⟨b,0,none⟩ d0).setCell ⟨b,1,none⟩ d1).setCell ⟨b,2,none⟩ d2).setCell ⟨b,3,none⟩ d3).heap[b]?=some (.cells #[d0,d1,d2,d3,l,j] h):=ci (i:=3) e d3;have k:(((((g.setCell ⟨b,0,none⟩ d0).setCell ⟨b,1,none⟩ d1).setCell ⟨b,2,none⟩ d2).setCell ⟨b,3,none⟩ d3).setCell ⟨b,4,none⟩ d4).heap[b]?=some (.cells #[d0,d1,d2,d3,d4,j] h):=ci (i:=4) f d4;have n:((((((g.setCell ⟨b,0,none⟩ d0).setCell ⟨b,1,none⟩ d1).setCell ⟨b,2,none⟩ d2).setCell ⟨b,3,none⟩ d3).setCell ⟨b,4,none⟩ d4).setCell ⟨b,5,none⟩ d5).heap[b]?=some (.cells #[d0,d1,d2,d3,d4,d5] h):=ci (i:=5) k d5;omega
def MT{d}(e:ap d c g)(a:c.heap.size<=b):ap d c ((((((g.setCell ⟨b,0,none⟩ d0).setCell ⟨b,1,none⟩ d1).setCell ⟨b,2,none⟩ d2).setCell ⟨b,3,none⟩ d3).setCell ⟨b,4,none⟩ d4).setCell ⟨b,5,none⟩ d5):=
 (((((e.c0 (p:=⟨b,0,none⟩) a d0).c0 (p:=⟨b,1,none⟩) a d1).c0 (p:=⟨b,2,none⟩) a d2).c0 (p:=⟨b,3,none⟩) a d3).c0 (p:=⟨b,4,none⟩) a d4).c0 (p:=⟨b,5,none⟩) a d5
def Ns{a}(c:g.heap[f]?=some a)(d:f≠b):((((((g.setCell ⟨b,0,none⟩ d0).setCell ⟨b,1,none⟩ d1).setCell ⟨b,2,none⟩ d2).setCell ⟨b,3,none⟩ d3).setCell ⟨b,4,none⟩ d4).setCell ⟨b,5,none⟩ d5).heap[f]?=some a:=by
 simp_all[Below.heap_setCell]
def ahG{a}(w:c.heap[f]?=some (qD d a k))(D:a.x.fin<=d.length)(a4:d.length<=2000):Calls prog 152 #[Zp f] c (Ip f d (lT d a).2 k (.agg (hy (lT d a).1)) c):=by
 have a5:=ay w;have G:∀g,ap [] c (c.alloc g):=λg=>(ar [] c).A g;have h:∀g,(c.alloc g).heap[f]?=some (qD d a k):=λg=>(Below.heap_alloc _ _ _ a5).trans w;have q:∀g,(c.alloc g).cell? (Zd f 1)=some (Y a.x.w):=λg=>aC (h g) rfl;have o:∀g,(c.alloc g).cell? (Zd f 2)=some (Zs a.x.text):=λg=>aC (h g) rfl;have m:∀g,(c.alloc g).cell? (Zd f 3)=some (Y a.x.y):=λg=>aC (h g) rfl;have l:∀g,(c.alloc g).cell? (Zd f 4)=some (Y a.x.fin):=λg=>aC (h g) rfl;have j:∀g,(c.alloc g).cell? (Zd f 5)=some (Y a.x.n):=λg=>aC (h g) rfl;have c5:∀g,(c.alloc g).cell? (Zd f 6)=some (Y a.x.e):=λg=>aC (h g) rfl;have c4:∀g,(c.alloc g).cell? (Zd f 11)=some (Y a.e):=λg=>aC (h g) rfl;have S:=U h;by_cases F:a.e=0
 .have a2:(a.e != 0)=false:=Zu;by_cases R:a.x.w=1
  .have s:af (lT d a=(a.x,wk d a)):=by simp_all[lT]
   have a3:((a.x.w:Int) != 1)=false:=Zu;have P:=U (λ(z H:Obj)=>Cn ((Below.heap_alloc (c.alloc z) H _ Zg).trans (h z)) D a4);clear w h F R;go_in;go_wp21;refine(P.i _ _).mono ?_;rintro a1 r ⟨rfl,y,i⟩;have p:r.heap[c.heap.size]?=some (.cells #[Y 0,.string ⟨#[]⟩,Y 0,Y 0,Y 0,Y 0] 112):=(i.ak _ Zx Zg).trans ((Below.heap_alloc _ _ _ Zq).trans (be rfl));have u:r.heap[c.heap.size+1]?=some (.cells (hy a.x) 112):=(i.ak _ Zq Zg).trans (be Zq);obtain⟨a6,a7,a8,a9,b0,b1,b2,b3⟩:=fs p;obtain⟨b4,b5,b6,b7,b8,b9,c0,c1⟩:=fs u;have E:=U p;have t:=U (Yp y (((((G _).aZ Zq).u ((ar [f] _).A _)).u i)));clear y i p u P;go_wp2;have C:=zW (d0:=Y a.x.w) (d1:=Zs a.x.text) (d2:=Y a.x.y) (d3:=Y a.x.fin) (d4:=Y a.x.n) (d5:=Y a.x.e) E.i;have B:=Ns (d0:=Y a.x.w) (d1:=Zs a.x.text) (d2:=Y a.x.y) (d3:=Y a.x.fin) (d4:=Y a.x.n) (d5:=Y a.x.e) t.i.1 (show f≠c.heap.size by omega);have A:=MT (b:=c.heap.size) (d0:=Y a.x.w) (d1:=Zs a.x.text) (d2:=Y a.x.y) (d3:=Y a.x.fin) (d4:=Y a.x.n) (d5:=Y a.x.e) t.i.2 (Y4 _);generalize ((((((r.setCell ⟨c.heap.size,0,none⟩ (Y a.x.w)).setCell ⟨c.heap.size,1,none⟩ (Zs a.x.text)).setCell ⟨c.heap.size,2,none⟩ (Y a.x.y)).setCell ⟨c.heap.size,3,none⟩ (Y a.x.fin)).setCell ⟨c.heap.size,4,none⟩ (Y a.x.n)).setCell ⟨c.heap.size,5,none⟩ (Y a.x.e))=a0 at C B A ⊢;obtain⟨I,J,K,L,M,N,c2,c3⟩:=fs C;refine bodyPost_ret (v:=.agg (hy a.x)) (by simp[results,results152,go_sem,I,J,K,L,M,N,dE]) rfl ?_;rw[s.i];exact⟨rfl,B,A,Ck D⟩
  .have s:af (lT d a=(dE,oq a)):=by simp_all[lT]
   have a3:((a.x.w:Int) != 1)=true:=Zg;have O:=U (λ(z H:Obj)=>AV ((Below.heap_alloc (c.alloc z) H _ Zg).trans (h z)));clear w h F R;go_in;go_wp21;refine(O.i _ _).mono ?_;rintro a1 r ⟨rfl,y,i⟩;have p:r.heap[c.heap.size]?=some (.cells #[Y 0,.string ⟨#[]⟩,Y 0,Y 0,Y 0,Y 0] 112):=(i.ak _ Zx Zg).trans ((Below.heap_alloc _ _ _ Zq).trans (be rfl));have u:r.heap[c.heap.size+1]?=some (.cells (hy a.x) 112):=(i.ak _ Zq Zg).trans (be Zq);obtain⟨a6,a7,a8,a9,b0,b1,b2,b3⟩:=fs p;obtain⟨b4,b5,b6,b7,b8,b9,c0,c1⟩:=fs u;have E:=U p;have t:=U (Yp y (((((G _).aZ Zq).u ((ar [f] _).A _)).u i)));clear y i p u O;go_wp2;have C:=zW (d0:=Y 0) (d1:=.string ⟨#[]⟩) (d2:=Y 0) (d3:=Y 0) (d4:=Y 0) (d5:=Y 0) E.i;have B:=Ns (d0:=Y 0) (d1:=.string ⟨#[]⟩) (d2:=Y 0) (d3:=Y 0) (d4:=Y 0) (d5:=Y 0) t.i.1 (show f≠c.heap.size by omega);have A:=MT (b:=c.heap.size) (d0:=Y 0) (d1:=.string ⟨#[]⟩) (d2:=Y 0) (d3:=Y 0) (d4:=Y 0) (d5:=Y 0) t.i.2 (Y4 _);generalize ((((((r.setCell ⟨c.heap.size,0,none⟩ (Y 0)).setCell ⟨c.heap.size,1,none⟩ (.string ⟨#[]⟩)).setCell ⟨c.heap.size,2,none⟩ (Y 0)).setCell ⟨c.heap.size,3,none⟩ (Y 0)).setCell ⟨c.heap.size,4,none⟩ (Y 0)).setCell ⟨c.heap.size,5,none⟩ (Y 0))=a0 at C B A ⊢;obtain⟨I,J,K,L,M,N,c2,c3⟩:=fs C;refine bodyPost_ret (v:=.agg (hy dE)) (by simp[results,results152,go_sem,I,J,K,L,M,N,dE]) rfl ?_;rw[s.i];exact⟨rfl,B,A,D⟩
 .have s:af (lT d a=(dE,a)):=by simp_all[lT]
  have a2:(a.e != 0)=true:=Zu;clear w h F;go_in;go_wp2;refine bodyPost_ret (v:=.agg (hy dE)) (by simp[results,results152,go_sem,dE]) rfl ?_;rw[s.i];exact⟨rfl,S.i _,(G _).aZ Zq,D⟩
end
section
variable {l:Zc}{a:Zw}
def su(a:Zw)(v:Zv)(d g:Nat)(f:Nat->Zv):Prop:=∃ad e,v=.slice ad d e/\∀b,b<d->∃c,ad=some ⟨c,0,none⟩/\a.cell? ⟨c,b*g,none⟩=some (f b)
def LB:(∀{a:Zw} {v:Zv} {l:List Int},su a v l.length 1 (λe=>Y (l.getD e 0))->l.length<=1000000000->∀c:Int,Calls prog 149 #[v,Y c] a λj n=>j=.returned (.bool (l.contains c))/\n=a)/\
  ∀{a:Zw} {v:Zv} {l:Zc},su a v l.length 1 (λe=>.string ⟨(l.getD e []).toArray⟩)->l.length<=1000000000->∀c:Zb,Calls prog 257 #[v,Zs c] a λj n=>j=.returned (.bool (l.contains c))/\n=a:=by
 constructor;all_goals
  intro a v l m D c;obtain⟨ad,x,rfl,m⟩:=m;have s:=U m;go_in;go_wp2;go_loopw [5] (λe w=>∃b:Nat,e=Y b/\b<=l.length/\af (∀f∈l.take b,f≠c)/\w=a) (λe _=>l.length-(intOf e).toNat)
  case atStart=>exact⟨0,rfl,Zm,(by intro f d;simp at d),rfl⟩
  case round=>
   obtain⟨b,rfl,B,o,rfl⟩:=hrel;rcases Yj b l.length with h|A
   .obtain⟨y,rfl,p⟩:=s.i b h;rw[Nat.mul_one,show l.getD b _=l[b] by simp[h]]at p;have C:(0:Int)<=↑b:=Zm;have t:(↑b:Int) < ↑l.length:=Zm;by_cases i:l[b]=c
    .have k:af (l.contains c=true):=by show _=_;simp;rw[<-i];exact Yy h
     rw[i]at p;go_wp2;go_ret;exact⟨by rw[k.i];rfl,rfl⟩
    .have r:af (∀f∈l.take (b+1),f≠c):=by
      intro f d;rw[Yt h,Yn]at d;rcases d with d|d
      .exact o.i f d
      .simp at d;rw[d];exact i
     have z:(l[b]==c)=false:=by simpa using i
     generalize l[b]=E at *
     go_wp2;exact⟨⟨b+1,Zj,h,r,trivial⟩,Zz⟩
   .have u:b=l.length:=Zm;subst u;have k:af (l.contains c=false):=by
     have:=o.i;rw[YG]at this;show _=_;simp;intro g;exact this c g rfl
    have t:¬((l.length:Int)<(l.length:Int)):=Zm;have g:c ∉ l:=by have:=k.i;simpa using this
    have q:=U g;go_wp2;go_ret;refine⟨pJ ?_,rfl⟩;have g:=q.i;simp[g]
def BC{v}{l:List Int}(e:su a v l.length 1 λf=>Y (l.getD f 0))(d:l.length<=1000000000)(b:Int):Calls prog 149 #[v,Y b] a λc g=>c=.returned (.bool (l.contains b))/\g=a:=LB.1 e d b
def WG{v}(e:su a v l.length 1 λf=>.string ⟨(l.getD f []).toArray⟩)(d:l.length<=1000000000)(b:Zb):Calls prog 257 #[v,Zs b] a λc g=>c=.returned (.bool (l.contains b))/\g=a:=LB.2 e d b
def qo(l:Zc)(a:Zb):Int:=if l.contains a then (l.idxOf a:Int)else -1
def VM{v}(n:su a v l.length 4 λh=>.string ⟨(l.getD h []).toArray⟩)(E:l.length<=1000000000)(c:Zb):Calls prog 90 #[v,Zs c] a λj x=>j=.returned (Y (qo l c))/\x=a:=by
 obtain⟨ad,y,rfl,n⟩:=n;have q:=U n;go_in;go_wp2;go_loopw [5] (λh w=>∃b:Nat,h=Y b/\b<=l.length/\af (∀f∈l.take b,f≠c)/\w=a) (λh _=>l.length-(intOf h).toNat)
 case atStart=>exact⟨0,rfl,Zm,(by intro f d;simp at d),rfl⟩
 case round=>
  obtain⟨b,rfl,C,i,rfl⟩:=hrel;rcases Yj b l.length with e|B
  .obtain⟨z,rfl,o⟩:=q.i b e;rw[show l.getD b []=l[b] by simp[e]]at o;have D:(0:Int)<=↑b:=Zm;have s:(↑b:Int) < ↑l.length:=Zm;by_cases g:l[b]=c
   .have m:af (qo l c=b):=by
     show _=_;have r:l.contains c=true:=by simp;rw[<-g];exact Yy e
     unfold qo;rw[Y9 r];congr 1;have j:l=l.take b++c::l.drop (b+1):=by
      rw[<-g,<-Yk e,List.take_append_drop]
     rw[j,List.idxOf_append];have u:c ∉ l.take b:=λk=>i.i c k rfl;rw[Y2 u];simp;omega
    rw[g]at o;go_wp2;go_ret;exact⟨by rw[m.i];rfl,rfl⟩
   .have p:af (∀f∈l.take (b+1),f≠c):=by
     intro f d;rw[Yt e,Yn]at d;rcases d with d|d
     .exact i.i f d
     .simp at d;rw[d];exact g
    have A:(l[b]==c)=false:=by simpa using g
    generalize l[b]=F at *
    go_wp2;exact⟨⟨b+1,Zj,e,p,trivial⟩,Zz⟩
  .have t:b=l.length:=Zm;subst t;have m:af (qo l c = -1):=by
    have:=i.i;rw[YG]at this;show _=_;unfold qo;rw[Y2];simp;intro k;exact this c k rfl
   have s:¬((l.length:Int)<(l.length:Int)):=Zm;go_wp2;go_ret;exact⟨by rw[m.i];rfl,rfl⟩
end
end Go.Proofs.YtjdhaegijjednaaGreatDoor
namespace Go.Proofs.YtjdhaegijjednaaGreatDoor
open Go.RowKit
open Go.Lib (decDigits)
open Go.Proofs.Tryz
theorem Bm{a:Nat}(b:a<10):decDigits a=[UInt8.ofNat (48+a)]:=by rw[Lib.decDigits,dif_pos b]
def KG{a:Nat}(b:¬a<10):decDigits a=decDigits (a / 10)++decDigits (a % 10):=by
 rw[Lib.decDigits,dif_neg b,Bm (Nat.mod_lt a Zm)]
def zf:∀(a b:Nat),b<10 ^ (a+1)->(decDigits b).length<=a+1:=by
 intro a;induction a with
 |zero=>grind [Bm]
 |succ a e=>
  intro b d;by_cases c:b<10
  .grind
  .rw[KG c,Yq,Bm (Nat.mod_lt b Zm)];grind
def mQ(a b:Zb):(⟨a.toArray⟩:Za)++(⟨b.toArray⟩:Za)=⟨(a++b).toArray⟩:=by
 rfl
def KP:∀(a:Nat),a<=10000000000->∀(b:Zw),Calls prog 144 #[Y a] b λd s=>d=.returned (.string ⟨(decDigits a).toArray⟩)/\ap [] b s:=by
 intro a;induction a using Nat.strongRecOn with
 |_ a f=>
  intro A b;have D:¬((a:Int)<0):=Zm;by_cases e:a<10
  .have c:af (decDigits a=[UInt8.ofNat (48+a)]):=Bm e;have r:¬((9:Int)<(a:Int)):=Zm;have x:IntKind.u8.wrap (48+(a:Int))=48+(a:Int):=by rw[IntKind.wrap_u8];omega
   have l:af (∀b:Zw,(convert 97 9 (.slice (some ⟨b.heap.size,0,none⟩) 1 1)).run prog (b.alloc (.cells #[.int .u8 (48+(a:Int))] 5))=.ok (.string ⟨#[UInt8.ofNat (48+a)]⟩) (b.alloc (.cells #[.int .u8 (48+(a:Int))] 5))):=by
    intro b;refine run_convert_bytes_back (b.alloc _) 97 9 5 ⟨b.heap.size,0,none⟩ 1 [UInt8.ofNat (48+a)] underlying97 underlying5 underlying9 λo m=>?_;have n:o=0:=Zu;subst n;have k:(⟨b.heap.size,0,none⟩:Addr).add 0=⟨b.heap.size,0,none⟩:=Zr;rw[k,aC (be rfl) rfl];simp;omega
   have y:=l.i b;go_in;go_wp2;go_ret;refine⟨?_,(ar ..).A _⟩;rw[c.i];simp
  .have c:af (decDigits a=decDigits (a / 10)++decDigits (a % 10)):=KG e;have i:=U (f (a / 10) Zm Zm);have j:=U (f (a % 10) Zm Zm);have r:(9:Int)<(a:Int):=Zm;have v:(a:Int).tdiv 10=((a / 10:Nat):Int):=by
    rfl
   have w:(a:Int).tmod 10=((a % 10:Nat):Int):=by
    rfl
   have B:=zf 10 (a / 10) Zm;have C:=zf 10 (a % 10) Zm;have z:¬(9223372036854775807<(decDigits (a / 10)).length+(decDigits (a % 10)).length):=Zm;have m:=mQ (decDigits (a / 10)) (decDigits (a % 10));generalize decDigits (a / 10)=t at *
   generalize decDigits (a % 10)=u at *
   go_in;go_wp21;refine(i.i _).mono ?_;rintro d E ⟨rfl,p⟩;have g:=U p;go_wp21;refine(j.i _).mono ?_;rintro d F ⟨rfl,q⟩;have h:=U (g.i.u q);go_wp2;go_ret;exact⟨by rw[c.i];rfl,h.i⟩
def um(b:Int)(m:-10000000000<=b)(n:b<=10000000000)(d:Zw):Calls prog 144 #[Y b] d λe j=>e=.returned (.string ⟨(Lib.itoa b).toArray⟩)/\ap [] d j:=by
 by_cases l:b<0
 .obtain⟨a,rfl⟩:∃a:Nat,b = -(a:Int):=⟨b.natAbs,Zm⟩;have c:af (Lib.itoa (-(a:Int))=45::decDigits a):=by
   show _=_;simp_all[Lib.itoa]
  have h:=U (KP a Zm);have k:IntKind.i64.wrap (a:Int)=a:=by rw[IntKind.wrap_i64];omega
  have q:=zf 10 a Zm;have o:=mQ [45] (decDigits a);generalize decDigits a=f at *
  go_in;go_wp21;refine(h.i _).mono ?_;rintro e r ⟨rfl,i⟩;have g:=U i;have p:¬(9223372036854775807<1+f.length):=Zm;go_wp2;go_ret;exact⟨by rw[c.i];rfl,g.i⟩
 .obtain⟨a,rfl⟩:∃a:Nat,b=(a:Int):=⟨b.toNat,Zm⟩;have c:Lib.itoa (a:Int)=decDigits a:=by
   rfl
  rw[c];exact KP a Zm d
end Go.Proofs.YtjdhaegijjednaaGreatDoor
namespace Go.Proofs.YtjdhaegijjednaaGreatDoor
open Go.RowKit Go.MapKept Go.Proofs.Tryz
section
variable {a:vu}{d:List aV}{b:Zc}{e:Zw}{c:St}
def WZ:(prog.info? 242).map (λa=>(a.zero,a.size,a.bytes))=some (some (.agg #[.string ⟨#[]⟩,Y 0,.nilIface]),3,40):=Zk
def mt(d:Za)(a:vu):PX (List aV×Zc) Unit:=λb c=>match il d (cQ a.q a.bx) b.2 c with
 |.ok (e,g,h)=>aQ (lift (cu d [59])) (λ_=>eJ ()) (b.1++[e],g) h
 |.error f=>.error f
def Db{e}{g:Zc}{h:St}{f:aV}(i:il e (cQ a.q a.bx) b c=.ok (f,g,h)):mt e a (d,b) c=aQ (lift (cu e [59])) (λ_=>eJ ()) (d++[f],g) h:=by simp only[mt,i]
theorem Da{f e}(g:il f (cQ a.q a.bx) b c=.error e):mt f a (d,b) c=.error e:=by simp only[mt,g]
def jQ{a:Nat}{b:Zv}{c}(d:e.heap[a]?=some (.cells #[b] c)):e.cell? (Zd a 0)=some b:=by simp[World.cell?,d]
def Gr(a:aV):∀c∈oA a,c.oneCell'=true:=by
 intro c b;simp only[Yg,List.not_mem_nil,or_false]at b;rcases b with rfl|rfl|rfl
 .rfl
 .rfl
 .cases a.H<;>rfl
def Hg(f:Ad)(a:vu)(c:Zb×Nat)(i:Nat)(b:List aV×Zc)(h:List Th)(g:Zo):Prop:=b.1.length=i/\∃e d,oj b.2 d/\(a.bx,Obj.cells #[.map (some a.q)] 103)∈g/\
 h=[.obj a.cb (.cells #[(cQ a.q a.bx).v] 341),.obj a.q d,.obj a.db (.cells #[Zp a.D] 229),.row 242 3 e b.1.length (b.1.flatMap oA),.obj a.D (.cells #[.string ⟨c.1.toArray⟩,Y c.2,e] 353),.obj a.rb (.cells #[Zp f.R] 145)]
theorem afT{k p q C}{w:Nat}{b n m}(a6:w<1000)(G:Hg k a C w b n m)(g:AK k p n m c e q):Calls prog 196 #[Zp a.db,Zp a.rb,Zp a.cb] q (yB [k.R,k.S,k.N] e (λb c q=>∃n m,Hg k a C (w+1) b n m/\AK k p n m c e q) (mt p a b c)):=by
 obtain⟨d,b⟩:=b;obtain⟨u,a9,a8,B,I,rfl⟩:=G;obtain⟨ad,F,rfl⟩:=aW (g.th (i:=3) rfl);dsimp only at u B g;have E:=U u;have a5:d.length<1000:=Zm;clear u;have b0:=aC (g.th (i:=4) rfl) (i:=2) rfl;have b1:=aC (g.th (i:=5) rfl) (i:=0) rfl;have b2:=aC (g.th (i:=2) rfl) (i:=0) rfl;have P:=aC (g.th (i:=0) rfl) (i:=0) rfl;dsimp only[fj.v,cQ]at P;have f:=U g.ag;have y:=U I;go_in;go_wp21;refine bJ (λr=>r.cell? (Zd a.D 2)=some (.slice ad d.length F)/\r.cell? (Zd a.rb 0)=some (Zp k.R)/\r.cell? (Zd a.db 0)=some (Zp a.D)/\r.cell? (Zd a.cb 0)=some (.func (.func 251) #[] #[Zp a.bx])) ?_ λt=>?_
 .go_keep
 refine bf [0,1,2,3,4,5,6] ?_;iterate 7 (refine bi ?_)
 refine bg ?_;refine bI 7 λl h=>?_;(go_simp;refine CZ 1 f (U (rfl:mt p a (d,b) c=_)) B y.i ER (λo O b7 M a0 L s f=>?_) (λ_ _ _ g=>Db g) λ_ g=>Da g;have a1:=aC (f.i.th (i:=4) rfl) (i:=2) rfl;have a2:=aC (f.i.th (i:=5) rfl) (i:=0) rfl;have a3:=aC (f.i.th (i:=2) rfl) (i:=0) rfl;have x:=aC (f.i.th (i:=0) rfl) (i:=0) rfl;dsimp only[fj.v,cQ]at x;dsimp only[rz]);refine h.out _ _ ?_ (λt=>?_)
 .go_keep
 clear h l;refine nz ?_;have f:=U (f.i.A (.cells (oA o).toArray 242));refine bI 8 λl h=>?_;go_simp;refine h.out _ _ ?_ (λt=>?_)
 .go_keep
 clear h l;refine nz ?_;refine bI 9 λl h=>?_;(refine mh WZ underlying351 (f.i.th (i:=4) rfl) (oA o) (heap_alloc_new a0 _) (Gr o) Zm (YV _) rfl ?_;intro A z b3 K J H a7;have f:=U (f.i.a4 (i:=4) rfl K J H rfl);have a1:=aC (f.i.th (i:=5) rfl) (i:=2) rfl;have a2:=aC (f.i.th (i:=6) rfl) (i:=0) rfl;have a3:=aC (f.i.th (i:=3) rfl) (i:=0) rfl;have x:=aC (f.i.th (i:=1) rfl) (i:=0) rfl;dsimp only[fj.v,cQ]at x);refine h.out _ _ ?_ (λt=>?_)
 .go_keep
 clear h l;refine nz ?_;have b6:=bl (f.i.th (i:=5) rfl);refine bf [10,11] ?_;iterate 2 (refine bi ?_)
 refine bg ?_;refine bL λl h=>?_;go_simp;refine h.out _ _ ?_;clear h l;refine nz ?_;have f:=U (f.i.aq (i:=5) (j:=2) rfl (.slice (some ⟨A,0,none⟩) (d.length+1) z)).au;have v:=aC (f.i.th (i:=5) rfl) (i:=0) rfl;go_wp21;refine cM f s (hq _ ·) λb5 a4 b4 s f=>?_;go_wp2;go_end0;exact⟨f.i.kp,Y8 ⟨(d++[o],O),a4,s.i,rfl,_,m,⟨by simp[E.i],.slice (some ⟨A,0,none⟩) (d.length+1) z,M,L,y.i,rfl⟩,by simpa using f.i⟩⟩
end
section
variable {a:St}{b:Type}
def afU(args:Array Zv)(a:Zw):(callFunc 196 args).run prog a=.ok (.enter 196 args) a:=by
 kernel_rfl
def afa(a:Ad)(c:Za)(h:Zw)(b:vu)(g:Zb×Nat):AJ (List aV×Zc) [a.R,a.S,a.N] [] a c (λ(_:Unit) _=>True) () h 12 where
 f:=196
 id:=#[Zp b.db,Zp b.rb,Zp b.cb]
 a9:=mt c b
 T:=Hg a b g
 d2:=afU
 call:=λi e d=>afT Zm e d
def lL(d:PX b Unit)(e:b):PM b:=λa=>match d e a with
 |.ok (_,f,g)=>.ok (f,g)
 |.error c=>.error c
def zU{c:PX b Unit}{d e:b}{f:St}(g:c d a=.ok ((),e,f)):lL c d a=.ok (e,f):=by simp only[lL,g]
theorem zT{d:PX b Unit}{e c}(f:d e a=.error c):lL d e a=.error c:=by simp only[lL,f]
def mu(a:Za)(c:Nat):PM aD:=aN (kD c) λ_=>aN (jA a) λb=>aN (lL (ih a 12 (mt a ⟨0,0,0,0,0,0⟩)) ([],[])) λd=>aN (cu a [59]) λ_=>ret (.struct b.1 b.2 d.1)
def afV{d h}(j:Nat){e}(m:Rd d h a e):Calls prog 122 #[Zp d.R,Y j] e (ve 229 [d.R,d.S,d.N] d h e (mu h j a)):=by
 have J:=jT;have b:=U ((yH m).A (.cells #[Zp d.R] 145));have c:af (mu h j a=aN (kD j) _ a):=U rfl;have k:=aE (b.i.th (i:=0) rfl);go_in;go_wp21;refine cM b c (Ch _ ·) λM a3 O c b=>?_;have k:=aE (b.i.th (i:=0) rfl);go_wp21;refine cM b c (xy ·) λg a4 l c b=>?_;dsimp only[jB];have p:∀(e:Zw) q,(e.alloc q).heap.size=e.heap.size+1:=Zq;have b:=((b.i.A (.cells #[.string ⟨g.1.toArray⟩,Y g.2,.slice none 0 0] 353)).nil 242 3).A (.cells #[Zp l.heap.size] 229);rw[p]at b;have b:=U b;go_wp21;generalize World.alloc _ (.cells #[Zp l.heap.size] 229)=f at *
 refine(AT _).mono ?_;rintro w P ⟨rfl,rfl⟩;have b:=((b.i.A (.map #[] 0)).A (.cells #[.map (some f.heap.size)] 103)).c6.A (.cells #[(cQ f.heap.size (f.heap.size+1)).v] 341);simp only[p]at b;have b:=U b;have k:=aE (b.i.th (i:=5) rfl);dsimp only[fj.v,cQ]at k ⊢;go_wp21;refine(Eu 12 (afa d h e ⟨l.heap.size,e.heap.size,l.heap.size+1,f.heap.size+1+1,f.heap.size,f.heap.size+1⟩ g) (t:=([],[])) Zm Zq ⟨rfl,_,_,AM,Yb,rfl⟩ b.i).mono ?_;rintro w a0 ⟨A,⟨⟨u,L⟩,a5,n,rfl,K,H,F,E,⟨I,B,q,-,-,rfl⟩,r⟩|⟨x,n,s,y,rfl,z⟩⟩;rotate_left
 .exact bM ⟨A,Ya ⟨x,c.i.trans (dv (zT n)),s,y,rfl,z⟩⟩
 have c:=U (c.i.trans (bK (zU n)));have b:=U r;have k:=aE (b.i.th (i:=5) rfl);go_wp21;refine cM b c (hq _ ·) λa2 C a1 c b=>?_;have G:=aE (b.i.th (i:=2) rfl);go_wp2;go_ret;obtain⟨D,o,S,-⟩:=b.i.au.au.au.gL Zm;exact⟨o.kp,Y8 ⟨.struct g.1 g.2 u,C,_,_,c.i,rfl,o.c6.fin,⟨B,Yb,S.aZ λ_ m=>Y5 _ m⟩,o.c6.br,rfl⟩⟩
end
def nJ(a:Mar.aU):PM (List (Zb×Nat×Int)):=λb=>
 match aP b.G a.text with
 |some (some (.enum _ _ c))=>.ok (c,b)
 |_=>.error ⟨7,a.y⟩
theorem Ph(a:Zw):(Instr.typeAssert .nilIface 157 227 true).run prog a=.ok (.tuple #[.pointer none,.bool false]) a:=Zk
def aga(a:Zv)(b:Zw):(Instr.typeAssert (.iface 227 a) 157 227 true).run prog b=.ok (.tuple #[a,.bool true]) b:=Zk
theorem af9(c:aD)(f:Zv)(d:Zw)(h:∀b a v,c≠.enum b a v):(Instr.typeAssert (.iface (fC c) f) 157 227 true).run prog d=.ok (.tuple #[.pointer none,.bool false]) d:=by
 cases c with
 |enum b a v=>simp_all
 |typedef c=>kernel_rfl
 |const b a e=>kernel_rfl
 |struct b a e=>kernel_rfl
 |union b a j g=>kernel_rfl
 |prog b a k i=>kernel_rfl
def Rf(d:Ad)(m:Za)(c:Zw)(j:St)(i:Except Mar.ac (List (Zb×Nat×Int)×St))(g:Ending)(a:Zw):Prop:=
 Below c.heap.size c a/\((∃l k h e f,i=.ok (h,j)/\g=.returned (Zp e)/\Rd d m j a/\gH f e (.enum l k h)/\dF d.X f a)\/(∃b,i=.error b/\eH c b.no b.y g a))
def Vh{d x g}(a:Mar.aU){w}(n:Rd d x g w):Calls prog 253 #[Zp d.R,dH a] w (Rf d x w g (nJ a g)):=by
 have i:=((Below.refl w.heap.size w).alloc (Y4 _) (.cells #[Y a.w,Zs a.text,Y a.n,Y a.y] 154)).drew;obtain⟨I,J,K,L,M,P⟩:=n.K;have S:=n.lt.1;have k:=n.az i;have key:(∃v,(Instr.lookup 148 (.map (some d.N)) (Zs a.text) false).run prog ((w.alloc (.cells #[Y a.w,Zs a.text,Y a.n,Y a.y] 154)).drew)=.ok v ((w.alloc (.cells #[Y a.w,Zs a.text,Y a.n,Y a.y] 154)).drew)/\
    (∀q,(Instr.typeAssert v 157 227 true).run prog q=.ok (.tuple #[.pointer none,.bool false]) q)/\nJ a g=.error ⟨7,a.y⟩)\/
   (∃(e:Nat) (c:Zb) (b:Nat) (l:List (Zb×Nat×Int)) (f:Zo),(Instr.lookup 148 (.map (some d.N)) (Zs a.text) false).run prog ((w.alloc (.cells #[Y a.w,Zs a.text,Y a.n,Y a.y] 154)).drew)=.ok (.iface 227 (Zp e)) ((w.alloc (.cells #[Y a.w,Zs a.text,Y a.n,Y a.y] 154)).drew)/\
    dF d.X f ((w.alloc (.cells #[Y a.w,Zs a.text,Y a.n,Y a.y] 154)).drew)/\gH f e (.enum c b l)/\nJ a g=.ok (l,g)):=by
  rcases Ce k.nm a.text false with⟨u,j⟩|⟨G,v,f,u,E,s,j⟩
  .simp_all[Ph,nJ]
  .simp only[Ye,if_false]at j
   cases G with
   |none=>
    have a0:v=.nilIface:=s;grind [Ph,nJ]
   |some B=>
    obtain⟨e,rfl,D⟩:=s;by_cases C:∃c b o,B=.enum c b o
    .obtain⟨c,b,o,rfl⟩:=C;exact Ya ⟨e,c,b,o,f,j,E,D,by simp only[nJ,u]⟩
    simp_all[af9,nJ]
 rcases key with⟨v,j,F,h⟩|⟨e,c,b,l,f,j,t,r,h⟩
 .have m:=U h;have p:=U i;clear h k i;dsimp only[dH];go_in;go_wp2;go_region;go_wp2_with (go_at_call 70;refine(fp _ _ _).mono ?_;rintro O a1 ⟨rfl,rfl⟩);refine bM ⟨?_,Ya ⟨⟨7,a.y⟩,m.i,w.heap.size+1,Zm,rfl,be (w:=w.alloc _) Zq⟩⟩;exact(((Below.refl w.heap.size w).alloc (Y4 _) _).alloc Zq _).drew
 .have m:=U h;have F:=λH=>aga H;have p:=U k;have y:=U i;have A:=U t;have z:=U r;clear h k i t r;dsimp only[dH];go_in;go_wp2;go_region;go_wp2;go_ret;exact⟨y.i,Y8 ⟨c,b,l,e,f,m.i,rfl,p.i,z.i,A.i⟩⟩
section
variable {i:Nat}{a:List (Zb×Nat×Int)}{b:Int}{c:Zw}
def nM(a:List (Zb×Nat×Int))(b:Int):Bool:=a.any λc=>c.2.2==b
def WE(c:i<a.length)(d:a[i].2.2=b):nM a b=true:=by
 grind [nM]
def WF(c:∀i (d:i<a.length),a[i].2.2≠b):nM a b=false:=by
 grind [nM,List.getElem_of_mem]
theorem Oc{d:Nat}{b e}{a:Zl}(g:c.heap[d]?=some (.cells b e))(j:b.toList.take a.length=a)(h:i<a.length):c.cell? (Zd d i)=some a[i]:=by
 have f:b.toList[i]?=some a[i]:=by
  grind
 grind [World.cell?]
def Rq{u l k v P}(b:Int)(D:gH l k (.enum P v a))(g:dF u l c):Calls prog 254 #[Zp k,Y b] c λw R=>w=.returned (.bool (nM a b))/\R=c:=by
 obtain⟨b5,O,B,a7,M,C⟩:=D;obtain⟨b1,b2,b3,_⟩:=Ex (g _ B).1;rcases M with⟨rfl,y,_⟩|⟨x,S,a0,rfl,⟨a1,a8⟩,G,N⟩
 .have K:a=[]:=Yv.1 y;subst K;go_in;go_wp2;go_loopw [12] (λi j=>i=Y 0/\j=c) (λ_ _=>0)
  case atStart=>simp
  case round=>
   obtain⟨rfl,rfl⟩:=hrel;go_wp2;go_ret;exact⟨rfl,rfl⟩
 .have H:=(g _ G).1;have L:∀i (f:i<a.length),∃h:Nat,c.cell? (Zd x i)=some (Zp h)/\c.cell? (Zd h 2)=some (Y a[i].2.2):=by
   intro i f;have I:i<O.length:=Zm;have z:=Oc H N (i:=i) Zu;rw[List.getElem_map]at z;have A:=(g _ (C i f I)).1;obtain⟨_,_,b6,_⟩:=Ex A;simp_all
  have s:=U L;go_in;go_wp2;go_loopw [12,6] (λi b4 j=>∃d:Nat,i=Y d/\j=c/\d<=a.length/\∀e (n:e<a.length),e<d->a[e].2.2≠b) (λi _ _=>a.length-(intOf i).toNat)
  case atStart=>grind
  case round=>
   obtain⟨d,rfl,rfl,a6,p⟩:=hrel;rcases Yj d a.length with o|a2
   .obtain⟨h,a9,b0⟩:=s.i d o;have a3:(0:Int)<=↑d:=Zm;have a4:(↑d:Int) < ↑a.length:=Zm;have r:=U p;by_cases E:a[d].2.2=b
    .have F:(a[d].2.2==b)=true:=Zg;have t:=U (WE o E);go_wp2;go_ret;exact⟨by rw[t.i];rfl,rfl⟩
    .have F:(a[d].2.2==b)=false:=Zu;go_wp2;refine⟨⟨d+1,Zr,trivial,Zm,?_⟩,Zz⟩;intro e n a5;rcases Yj e d with m|m
     .exact r.i e n m
     grind
   .have J:d=a.length:=Zm;subst J;have q:=U (WF λi f=>p i f f);go_wp2;go_ret;exact⟨by rw[q.i];rfl,rfl⟩
end
section
variable {b:Ad}{c:Nat}{d:Except Mar.ac ((Ty×(Int->Bool))×St)}{w a:Zw}
def lM(c:Za)(a:Mar.aU):PM (Ty×(Int->Bool)):=
 if((a.w:Int)==1)then aN (nJ a) λb=>ret (.named a.text a.y,nM b)
 else if a.text==Jk then ret (.plain 0,dT (-2147483648) 2147483647)
 else if a.text==Jb then aN (el c Jk) λ_=>ret (.plain 1,dT 0 4294967295)
 else if a.text==Js then ret (.plain 4,dT 0 1)
 else hZ 3 a.y
def qK(a:Za):PM (Ty×(Int->Bool)):=aN (next a) (lM a)
def Hd{c}{a:Mar.aU}(d:((a.w:Int)==1)=true):lM c a=aN (nJ a) λb=>ret (.named a.text a.y,nM b):=by unfold lM;simp_all
def sk2{b}{a:Mar.aU}(c:((a.w:Int)==1)=false)(d:(a.text==Jk)=true):lM b a=ret (.plain 0,dT (-2147483648) 2147483647):=by simp_all[lM]
theorem OF{b}{a:Mar.aU}(c:((a.w:Int)==1)=false)(d:(a.text==Jk)=false)(e:(a.text==Jb)=true):lM b a=aN (el b Jk) λ_=>ret (.plain 1,dT 0 4294967295):=by simp_all[lM]
def sk4{b}{a:Mar.aU}(c:((a.w:Int)==1)=false)(d:(a.text==Jk)=false)(e:(a.text==Jb)=false)(f:(a.text==Js)=true):lM b a=ret (.plain 4,dT 0 1):=by simp_all[lM]
def sk5{b}{a:Mar.aU}(c:((a.w:Int)==1)=false)(d:(a.text==Jk)=false)(e:(a.text==Jb)=false)(f:(a.text==Js)=false):lM b a=hZ 3 a.y:=by simp_all[lM]
def DI(b:Ad)(h:Za)(w:Zw)(d:Except Mar.ac ((Ty×(Int->Bool))×St))(f:Ending)(a:Zw):Prop:=
 ap [b.S] w a/\((∃e g v,d=.ok (e,g)/\f=.returned (.tuple #[fY e.1,v])/\Rd b h g a/\oV b.X v e.2 a)\/(∃c,d=.error c/\eH w c.no c.y f a))
theorem AD{f}{ty:Ty}{c:Int->Bool}{e:St}{v}
  (i:ap [b.S] w a) (j:d=.ok ((ty,c),e)) (g:Rd b f e a) (h:oV b.X v c a):DI b f w d (.returned (.tuple #[fY ty,v])) a:=⟨i,Y8 ⟨(ty,c),e,v,j,rfl,g,h⟩⟩
def AE{M' k w1 f}
  (h:ap [b.S] w a) (i:ap M' w w1) (j:d=.error f) (e:w1.heap.size<=c) (g:a.heap[c]?=some (.cells #[Y f.no,Y f.y] 179)) :
  DI b k w d (.panicked [{ v:=.iface 143 (Zp c),recovered:=false }]) a:=⟨h,Ya ⟨f,j,c,Yz i.aG e,rfl,g⟩⟩
def Rr(args:Array Zv)(a:Zw):(callFunc 254 args).run prog a=.ok (.enter 254 args) a:=Zk
def VV{b a e j d}(g:gH a c (.enum j e d))(h:dF b a w):oV b (.func (.func 254) #[Zp c] #[]) (nM d) w:=by
 refine⟨a,_,_,_,rfl,h,Rr,λk f i=>?_⟩;refine(Rq i g f).mono ?_;simp_all[Below.refl]
def Ey{d e a b:Zv}{f}(g:w.heap[c]?=some (.cells #[d,e,a,b] f)):w.cell? (Zd c 0)=some d/\w.cell? (Zd c 1)=some e/\w.cell? (Zd c 2)=some a/\w.cell? (Zd c 3)=some b:=by
 simp_all[World.cell?]
def aen{v F}(x:Rd b v F w):Calls prog 197 #[Zp b.R] w (DI b v w (qK v F)):=by
 have b3:=jT;obtain⟨a7,a8,a9,b0,b1,b2⟩:=x.K;have G:=U (wl x);go_in;go_wp21;refine G.i.mono ?_;rintro i g ⟨z,⟨d,c8,t,rfl,B⟩|⟨q,t,c,j,rfl,k⟩⟩;rotate_left
 .exact bM (AE z (ar [] _) (dv t) j k)
 have f:=U z;have Hx:=U t;have h:=U (B.az ((Below.refl ..).alloc (Y4 _) (.cells #[Y d.w,Zs d.text,Y d.n,Y d.y] 154)));have O:=be (w:=g) (o:=.cells #[Y d.w,Zs d.text,Y d.n,Y d.y] 154) rfl;have p:=U O;have a3:=U B.bn;dsimp only[dH];go_wp2_with (first
  |(go_at_call 70;refine(fp _ _ _).mono ?_;rintro i a ⟨rfl,rfl⟩)
  |(go_at_call 189;refine(wG _ _ _).mono ?_;rintro i a1 ⟨c0,rfl,e,r⟩)
  |(go_at_call 192;refine(pq _ h.i).mono ?_;rintro i a0 ⟨A,⟨a2,c9,E,rfl,C⟩|⟨q,E,c,j,rfl,k⟩⟩))
 .have y:((d.w:Int)==1)=true:=‹_›;obtain⟨c4,c5,c6,c7⟩:=Ey p.i;have N:=ay p.i;go_region_held2 (λa=>a.cell? (Zd g.heap.size 0)=some (Y d.w)/\a.cell? (Zd g.heap.size 1)=some (Zs d.text)/\a.cell? (Zd g.heap.size 2)=some (Y d.n)/\a.cell? (Zd g.heap.size 3)=some (Y d.y)) (go_keep)
   (first
    |(go_at_call 243;refine(Hz d _).mono ?_;rintro i a0 ⟨rfl,l⟩;have s:=(l.block _ N).trans p.i;obtain⟨c1,c2,a2,c3⟩:=Ey s;have M:=ay s;have I:=U ((h.i.az (Below.refl ..).drew).az l);have m:=U ((f.i.A _).ag.u (ef _ l));clear l)
    |(go_at_call 253;refine(Vh d I.i).mono ?_;rintro i a1 ⟨e,⟨b9,a4,b4,a5,a6,u,rfl,D,K,L⟩|⟨q,u,c,j,rfl,k⟩⟩;rotate_left;exact bM (AE (m.i.u (ef _ e)) m.i ((bK Hx.i).trans (by rw[Hd y];exact dv u)) j k);have P:=(e.block _ M).trans s;obtain⟨b5,b6,b7,b8⟩:=Ey P;have H:=U (m.i.u (ef _ e));have J:=U D;clear e D))
  all_goals
   go_wp2;go_ret2;exact AD (ty:=.named d.text d.y) H.i ((bK Hx.i).trans (by rw[Hd y];exact bK u)) J.i (VV K L)
 .go_ret2;exact AD (ty:=.plain 0) ((f.i.A _).u (ef _ e)) ((bK Hx.i).trans (by rw[sk2 ‹_› ‹_›];rfl)) (h.i.az e) (r _ h.i.bn)
 .go_ret2;exact AD (ty:=.plain 1) (((f.i.A _).u A).u (ef _ e)) ((bK Hx.i).trans (by rw[OF ‹_› ‹_› ‹_›];exact bK E)) (C.az e) (r _ C.bn)
 .exact bM (AE ((f.i.A _).u A) (f.i.A _) ((bK Hx.i).trans (by simp_all[OF,dv])) j k)
 .go_ret2;exact AD (ty:=.plain 4) ((f.i.A _).u (ef _ e)) ((bK Hx.i).trans (by rw[sk4 ‹_› ‹_› ‹_› ‹_›];rfl)) (h.i.az e) (r _ h.i.bn)
 .exact bM (AE (M':=[b.S]) (w1:=g) (f:=⟨3,d.y⟩) ((f.i.A _).A _) f.i ((bK Hx.i).trans (by rw[sk5 ‹_› ‹_› ‹_› ‹_›];rfl)) Zm (be Zq))
end
def LH:(prog.info? 2).map (λa=>(a.zero,a.size,a.bytes))=some (some (Y 0),1,8):=Zk
def ky(a:Za)(e:Int->Bool):Nat->List Int->PX (List (Int×Int)) (List Int)
 |0,_=>lift (hZ 0 0)
 |k+1,b=>aQ (lift (cu a [99,97,115,101])) λf c=>aQ (lift (gT c.length 12 f.y)) (λ_=>aQ (ir a e) λd=>aQ (lift (cu a [58])) λ_=>
   aQ (lift (jD a Jg)) λg=>if g then ky a e k (b++[d])else eJ (b++[d])) c
def cases(b:Za)(a:Int->Bool):PX (List (Int×Int)) (List Int):=ky b a 13 []
def Ik(b:Ad)(n:Za)(k:Zw)(h:Nat)(i:Except Mar.ac (List Int×List (Int×Int)×St))(f:Ending)(a:Zw):Prop:=
 ap [b.S,h] k a/\((∃c g l j e,i=.ok (c,g,l)/\f=.returned j/\Rd b n l a/\hn h g a/\fk e 2 j c.length (c.map λm=>Y m)/\dF b.X e a)\/(∃d,i=.error d/\eH k d.no d.y f a))
section
variable {b:List Int}{a:List (Int×Int)}{d:Int->Bool}{c:Nat}{f:Zw}{e g:St}
def BM:Zv->Nat
 |.slice _ a _=>a
 |_=>0
def Bf(a:Za)(d:Int->Bool)(e:Nat)(b:List Int):PX (List (Int×Int)) (List Int):=aQ (ir a d) λc=>aQ (lift (cu a [58])) λ_=>
   aQ (lift (jD a Jg)) λf=>if f then ky a d e (b++[c])else eJ (b++[c])
theorem EB{f}{h:Nat}{c}(g:cu f Jg e=.error c):ky f d (h+1) b a e=.error c:=by
 simp only[ky];exact fc (im g)
def EC{f}{j:Nat}{c:Mar.aU}(h:cu f Jg e=.ok (c,g))(i:12<=a.length):ky f d (j+1) b a e=.error ⟨5,c.y⟩:=by
 simp only[ky];exact(dZ (gF h)).trans (fc (im (show gT a.length 12 c.y g=_ from Y9 i)))
def ED{c}{f:Nat}{h:Mar.aU}(i:cu c Jg e=.ok (h,g))(j:¬12<=a.length):ky c d (f+1) b a e=Bf c d f b a g:=by
 simp only[ky];exact(dZ (gF i)).trans (dZ (gF (show gT a.length 12 h.y g=_ from Y2 j)))
theorem Gj{j}{i:List (Int×Int)}{m:St}{l:Int}(b:ir j d a e=.ok (l,i,m)):i.length=a.length+1:=by
 unfold ir at b;cases h:jZ j d e with
 |error k=>rw[fc (im h)]at b;cases b
 |ok c=>
  obtain⟨c,g⟩:=c;rw[dZ (gF h)]at b;cases f:ox c.1 c.2 a ⟨6,c.2⟩with
  |error k=>rw[fc (xV f)]at b;cases b
  |ok n=>
   rw[dZ (xW f)]at b;simp only[eJ]at b;cases b
   unfold ox at f;split at f<;>cases f;simp
def Ng(e:hn c a f)(b:TypeId):(Builtin.len_ #[149] b #[.map (some c)]).run prog f=.ok (Y a.length) f:=by
 have g:f.heap[c]?=some (.map (a.mapIdx λh d=>(⟨Y d.1,Y d.2,h⟩:MapEntry)).toArray a.length):=e;have:=run_len_map (P:=prog) f 149 b c _ _ Zk g;rw[this];simp[goInt]
def Ti{k l v r}(m:Rd k l e f)(a2:oV k.X v d f)(y:ib k c)(a6:hn c r f):Calls prog 199 #[Zp k.R,.map (some c),v] f (Ik k l f c (cases l d r e)):=by
 have c2:¬k.S=c:=λN=>y.2.2.1 N.symm;obtain⟨w,O,b3,b2,D,C,B,A⟩:=a2;have H:af (∀(a:List Nat) (q:Zw),dF (k.a3 a).X w q->oV (k.a3 a).X v d q):=U λa q a0=>⟨w,O,b3,b2,D,a0,B,λq m=>A q (m.ca λ_ a9=>Ym _ a9)⟩;have h:=U ((vm (M:=[k.S,c]) (F:=[c]) (J:=hn c) m C a6 (λL u M=>L.ae u λa5=>M _ a5 Zq) (by simp[m.cD,y.1])).nil 2 1);clear D C B A;go_in;go_wp2;go_loopw [7,8] (λz u E=>∃(p:Bool) (b:List Int) (a:List (Int×Int)) (s:St),u=.bool p/\b.length<=12/\b.length<=a.length/\af (bF [k.S,c] [c] k l (hn c) a [.row 2 1 z b.length (b.map λn=>Y n)] w s f E)/\
   af (cases l d r e=(if p then ky l d (13-b.length) b else eJ b) a s)) (λz _ _=>13-BM z)
 case atStart=>exact⟨true,[],r,e,rfl,Zq,Zq,h,rfl⟩
 case round=>
  obtain⟨p,b,a,s,rfl,c1,x,h,j⟩:=hrel;obtain⟨ad,b7,rfl⟩:=aW (h.i.th (i:=0) rfl);cases p with
  |false=>
   go_wp2;go_ret;obtain⟨G,t,S,-⟩:=h.i.gL Zm;exact⟨t.kp,Y8 ⟨b,a,s,_,G,j.i,rfl,t.fin,t.j,S,t.br⟩⟩
  |true=>
   rw[show 13-b.length=(12-b.length)+1 by omega]at j;replace j:af (cases l d r e=aQ (lift (cu l Jg)) (λo a=>aQ (lift (gT a.length 12 o.y)) (λ_=>Bf l d (12-b.length) b) a) a s):=j;have P:=U x;clear x;go_wp21;refine cM h j (hq _ ·) λo g c3 j h=>?_;dsimp only[dH];have h:=U (h.i.A (.cells #[Y o.w,Zs o.text,Y o.n,Y o.y] 154)).au;have a7:=Ng h.i.j;go_wp21;refine ya h j (CM _ _ _ ·) λE c9 c5 I j h=>?_;have a4:a.length<12:=Nat.lt_of_not_le λm=>by cases (Y9 m).symm.trans I.i
   go_wp21;refine Hf h j (λb4 b0=>Gi b4 (H.i _ _ h.i.da) (y.a3 _) b0) λn b1 d0 b5 K j h=>?_;dsimp only[nO];have h:=U (h.i.A (.cells #[Y n] 2));have c0:=Gj K.i;clear a7;go_wp2_with (at_builtin;refine ku LH underlying245 (h.i.th (i:=1) rfl) [Y n] (heap_alloc_new b5 _) Zy Zm (YV _) rfl ?_;intro b9 b8 c6 a8 a3 a1 a4);have h:=U (h.i.a4 (i:=1) rfl a8 a3 a1 rfl).au;refine cM h j (hq _ ·) λc8 d1 c7 j h=>?_;dsimp only[dH];go_wp21;refine cM h j (zV _ ·) λp b6 c4 j h=>?_;have x:=P.i;go_wp2;exact⟨⟨p,b++[n],b1,b6,rfl,Zx,Zx,U (by simpa using h.i),U (j.i.trans (by rw[show 13-(b++[n]).length=12-b.length by simp]))⟩,by simp[BM];omega⟩
end
section
variable {e:Zl}{c:Mar.ac}{b ρ τ:Type}{a d:St}
def LG:(prog.info? 363).map (λa=>(a.zero,a.size,a.bytes))=some (some (.agg #[.slice none 0 0,.string ⟨#[]⟩,Y 0,.nilIface]),4,64):=Zk
def kG(g:PX τ b):PX (τ×ρ) b:=λe a=>match g e.1 a with
 |.ok (f,h,d)=>.ok (f,(h,e.2),d)
 |.error c=>.error c
def oE(g:PX ρ b):PX (τ×ρ) b:=λe a=>match g e.2 a with
 |.ok (f,h,d)=>.ok (f,(e.1,h),d)
 |.error c=>.error c
def xH{f:PX τ b}{g h:τ}{e:ρ}{c:b}(i:f g a=.ok (c,h,d)):kG f (g,e) a=.ok (c,(h,e),d):=by simp only[kG,i]
theorem xG{d:PX τ b}{e}{g:ρ}(f:d e a=.error c):kG d (e,g) a=.error c:=by simp only[kG,f]
def Ct{g:PX ρ b}{h:τ}{e f:ρ}{c:b}(i:g e a=.ok (c,f,d)):oE g (h,e) a=.ok (c,(h,f),d):=by simp only[oE,i]
theorem Cs{e:PX ρ b}{g:τ}{d}(f:e d a=.error c):oE e (g,d) a=.error c:=by simp only[oE,f]
abbrev fJ:=Zc×List (Int×Int)
abbrev iy:=List (List Int×aV)
def pu(a:Za)(b:iy):PX fJ iy:=aQ (lift (el a JL)) λd=>if d then
  aQ (lift (cu a [58])) λ_=>aQ (kG (lw a (cQ 0 0))) λc=>eJ (b++[([],c)])else eJ b
def jO(a:Za)(d:Int->Bool):Nat->iy->PX fJ iy
 |0,_=>lift (hZ 0 0)
 |k+1,e=>aQ (oE (cases a d)) λb=>aQ (kG (lw a (cQ 0 0))) λc=>aQ (lift (jD a [99,97,115,101])) λf=>if f then jO a d k (e++[(b,c)])else pu a (e++[(b,c)])
def kH(f:PX τ b)(g:τ):PM (b×τ):=λa=>match f g a with
 |.ok (e,h,d)=>.ok ((e,h),d)
 |.error c=>.error c
def CQ{e:PX τ b}{f g:τ}{c:b}(h:e f a=.ok (c,g,d)):kH e f a=.ok ((c,g),d):=by simp only[kH,h]
theorem rT{d:PX τ b}{e}(f:d e a=.error c):kH d e a=.error c:=by simp only[kH,f]
def pP(b:Za)(a:Zb×Nat)(d:aV)(c:iy):PM aD:=aN (cu b Jl) λ_=>aN (cu b [59]) λ_=>ret (.union a.1 a.2 d c)
def tA(d:Za)(a:Zb×Nat)(c:aV)(b:iy×fJ):PM aD:=pP d a c b.1
def sb(a:Za)(d:Zb×Nat)(c:Ty×(Int->Bool))(b:(Zb×Nat)×Zc):PM aD:=
 aN (cu a [41]) λ_=>aN (cu a Jv) λ_=>aN (kH (jO a c.2 13 []) (b.2,[])) (tA a d ⟨b.1.1,b.1.2,c.1⟩)
def qQ(a:Za)(b:Zb×Nat)(c:Ty×(Int->Bool)):PM aD:=aN (kH (name a (cQ 0 0)) []) (sb a b c)
def qP(a:Za)(b:Zb×Nat):PM aD:=aN (cu a Jn) λ_=>aN (cu a [40]) λ_=>aN (qK a) (qQ a b)
def iX(a:Za)(b:Nat):PM aD:=aN (kD b) λ_=>aN (jA a) (qP a)
def Te{g o}:∀(i:Nat) (k:List Int) (e:List (Int×Int)) (a:St) (j:List Int) (f:List (Int×Int)) (d:St),ky g o i k e a=.ok (j,f,d)->e.length<f.length/\f.length<=12:=by
 intro i;induction i with
 |zero=>intro k e a j f d b;simp only[ky]at b;cases b
 |succ i x=>
  intro k e a j f d b;cases m:cu g Jg a with
  |error c=>simp_all[EB]
  |ok p=>
   obtain⟨p,t⟩:=p;by_cases n:12<=e.length
   .rw[EC m n]at b;cases b
   .rw[ED m n]at b;unfold Bf at b;cases l:ir g o e t with
    |error c=>rw[fc l]at b;cases b
    |ok h=>
     obtain⟨z,y,u⟩:=h;rw[dZ l]at b;have w:=Gj l;cases r:cu g [58] u with
     |error c=>simp_all[fc,im]
     |ok q=>
      obtain⟨q,v⟩:=q;rw[dZ (gF r)]at b;cases s:jD g Jg v with
      |error c=>simp_all[fc,im]
      |ok h=>
       obtain⟨h,A⟩:=h;rw[dZ (gF s)]at b;cases h with
       |true=>
        grind
       |false=>
        simp only[Ye,if_false,eJ]at b
        grind
def fk.sl{c e v a g}(f:fk c e v a g):∃b d,v=.slice b a d:=by
 rcases f with⟨rfl,rfl,_⟩|⟨j,h,i,rfl,_⟩<;>exact⟨_,_,rfl⟩
abbrev vA(a:(List Int×aV)×Zv):Zl:=a.2::oA a.1.2
def Id{a:List b}{c:b×Zv->Zl}(g:e.length=a.length)(f:b)(d:Zv):((a++[f]).zip (e++[d])).flatMap c=(a.zip e).flatMap c++c (f,d):=by
 rw[List.zip_append g.symm];simp
def KT{P Q:Zv->b->Prop}{c:List b}{f}{d:Zv}(m:e.length=c.length)(g:∀a (g:a<c.length) (i:a<e.length),P e[a] c[a])(k:∀d f,P d f->Q d f)(l:Q d f):∀a (g:a<(c++[f]).length) (i:a<(e++[d]).length),Q (e++[d])[a] (c++[f])[a]:=by
 intro a j n;by_cases h:a<c.length
 .rw[List.getElem_append_left h,List.getElem_append_left Zm];exact k _ _ (g a h Zm)
 .simp at j;rw[List.getElem_append_right Zm,List.getElem_append_right Zm];simpa[m,show a-c.length=0 by omega]using l
end
section
variable {d:List Int}{f:List (Int×Int)}{a:Int->Bool}{c:iy}{i:Zc}{m n:Type}{g h:St}
def Gn(b:Zw)(nq:Nat):Nat:=match b.heap[nq]? with
 |some (.map a _)=>a.size
 |_=>0
def Nc{b nq}(c:hn nq f b):Gn b nq=f.length:=by
 have e:b.heap[nq]?=some (.map (f.mapIdx λd a=>(⟨Y a.1,Y a.2,d⟩:MapEntry)).toArray f.length):=c;grind [Gn]
def SB(b:Za)(a:Int->Bool)(f:Nat)(c:iy)(d:List Int):PX fJ iy:=aQ (kG (lw b (cQ 0 0))) λe=>aQ (lift (jD b Jg)) λg=>if g then jO b a f (c++[(d,e)])else pu b (c++[(d,e)])
def xU{e:Type}{a b:PX e m}{c d}(f:a c g=b d h):kH a c g=kH b d h:=by simp only[kH,f]
def xc{a b:PM m}{e:m->PM n}(c:a g=b h):aN a e g=aN b e h:=by simp only[aN,c]
def SA{b:Za}{j:Nat}{k:List (Int×Int)}{e:iy×fJ->PM n}(l:cases b a f g=.ok (d,k,h)):aN (kH (jO b a (j+1) c) (i,f)) e g=aN (kH (SB b a j c d) (i,k)) e h:=by
 refine xc (xU ?_);simp only[jO];exact dZ (Ct l)
def Sz{b:Za}{h:Nat}{d:Mar.ac}{e:iy×fJ->PM n}(j:cases b a f g=.error d):aN (kH (jO b a (h+1) c) (i,f)) e g=.error d:=by
 refine dv (rT ?_);simp_all[jO,fc,Cs]
def Ak(f:Zo)(i:Zc)(h:Obj)(c:iy)(d:Zl)(e:Zo):Prop:=
 oj i h/\d.length=c.length/\(∀b (j:b<c.length) (k:b<d.length),fk e 2 d[b] c[b].1.length (c[b].1.map λg=>Y g))/\∀a∈f,a∈e
def Ak.d8{k h j n s m l}{o:aV}{b}(P:Ak k i s c l h)(p:oj n m)(q:fk j 2 b d.length (d.map λf=>Y f)):Ak k n m (c++[(d,o)]) (l++[b]) (j++h):=
 ⟨p,by simp[P.2.1],KT (P:=λb g=>fk h 2 b g.1.length (g.1.map λf=>Y f)) (Q:=λb g=>fk (j++h) 2 b g.1.length (g.1.map λf=>Y f)) P.2.1 P.2.2.1 (λ_ _ e=>e.aZ λ_ e=>Ym _ e) (q.aZ λ_ e=>Yf _ e),λa r=>Ym _ (P.2.2.2 a r)⟩
section
variable {k : Ad} {b : Za} {j : Zw} {l e : Nat} {args : Array Zv}
def XW{g}(i:Calls prog e args j (Ik k b j l g)):Calls prog e args j (It [k.S,l] k b j l g (λa:(List Int×List (Int×Int)×St)×Zv×Zo=>a.1) (λa=>a.2.1) (λa=>a.1.2.2) (λa t=>t=lG a.1.2.1) (λa=>fk a.2.2 2 a.2.1 a.1.1.length (a.1.1.map λs=>Y s)) λa=>a.2.2):=by
 refine i.mono ?_;rintro v w ⟨f,⟨d,r,h,u,m,c,rfl,p,o,q,n⟩|c⟩
 .exact⟨f,Y8 ⟨((d,r,h),u,m),_,c,rfl,p,o,rfl,q,n⟩⟩
 .exact⟨f,Ya c⟩
end
end
def ag1{n i w}(r:Nat){q}(c:Rd n i w q):Calls prog 123 #[Zp n.R,Y r] q (ve 231 [n.R,n.S,n.N] n i q (iX i r w)):=by
 have g9:=jT;have h0:=nN;have b3:∀(q:Zw) G,(q.alloc G).heap.size=q.heap.size+1:=Zq;have a:=U (yH c);have b:af (iX i r w=aN (kD r) _ w):=U rfl;go_in;go_wp21;refine cM a b (Ch _ ·) λK i4 h2 b a=>?_;go_wp21;refine cM a b (xy ·) λo i5 H b a=>?_;dsimp only[jB];have a:=U ((a.i.A (.cells #[.string ⟨o.1.toArray⟩,Y o.2,.string ⟨#[]⟩,Y 0,.nilIface,.slice none 0 0] 358)).nil 363 4);go_wp21;refine cM a b (hq _ ·) λh8 i6 h3 b a=>?_;go_wp21;refine cM a b (hq _ ·) λh9 i7 h4 b a=>?_;go_wp21;refine(aen a.i.rd).mono ?_;rintro C z ⟨b0,⟨⟨J,u⟩,d8,v,F,rfl,d1,a4,e6,f8,f7,d3,d0,c9,c7⟩|⟨c6,F,a3,f1,rfl,f2⟩⟩;rotate_left
 .exact bM ⟨a.i.kp.u (b0.aZ (by simp[Ad.a3])),Ya ⟨c6,b.i.trans (dv F),a3,Yz a.i.kp.aG f1,rfl,f2⟩⟩
 have b:=U (b.i.trans (bK F));have a:=U ((a.i.call (t':=()) b0 d1 trivial (by simp[Ad.a3])).iC d0);have e0:af (∀(l:List Nat) (A:Zw),H.heap.size∈l->dF (n.a3 l).X a4 A->oV (n.a3 l).X v u A):=U λl A f4 f0=>⟨a4,e6,f8,f7,d3,f0,c9,λA c=>c7 A (c.ca λg3 F=>(Yn.1 F).elim (λc=>Yf _ (by simp[dY,Th.aH,Value.ownBlock]at c;exact c▸f4)) (Ym _))⟩;clear b0 d1 d0 c9 c7 d3;obtain⟨a1,c2,d2⟩:=oQ J;simp only[d2.i];go_wp21;refine(AT _).mono ?_;rintro C d6 ⟨rfl,rfl⟩;have a:=((a.i.A (.map #[] 0)).A (.cells #[.map (some z.heap.size)] 103)).c6;simp only[b3]at a;have a:=U a;generalize World.alloc _ (.cells #[.map (some z.heap.size)] 103)=d6 at *
 go_wp21;refine CZ 0 a b AM Yb uz (λm g0 d9 d5 g1 e9 b a=>?_) (λ_ _ _ c=>bK (CQ c)) λ_ c=>dv (rT c);dsimp only[jB];have O:=aE (a.i.th (i:=2) rfl);have d7:=bl (a.i.th (i:=2) rfl);have a:=U (((a.i.aq (i:=2) (j:=2) rfl (.string ⟨m.1.toArray⟩)).aq (i:=2) (j:=3) rfl (Y m.2)).aq (i:=2) (j:=4) rfl (.iface a1 c2))
 go_wp21;refine cM a b (hq _ ·) λi0 a0 L b a=>?_;go_wp21;refine cM a b (hq _ ·) λi1 c4 M b a=>?_;have a:=U (a.i.A (.map #[] 0));go_wp2;go_loopw [10] (λa3 c0=>∃(p:Bool) (e:iy) (y:Zl) (b8:Zc) (l:List (Int×Int)) (b7:Zv) (P:St) (x:Zo) (G:Obj),a3=.bool p/\e.length<=l.length/\l.length<=12/\
   af (AK n i [.obj M.heap.size (lG l),.obj z.heap.size G,.row 363 4 b7 e.length ((e.zip y).flatMap vA),.obj H.heap.size (.cells #[.string ⟨o.1.toArray⟩,Y o.2,.string ⟨m.1.toArray⟩,Y m.2,.iface a1 c2,b7] 358)] x P q c0)/\
   af (Ak ((z.heap.size+1,Obj.cells #[.map (some z.heap.size)] 103)::a4) b8 G e y x)/\
   af (iX i r w=aN (kH (if p then jO i u (13-e.length) e else pu i e) (b8,l)) (tA i o ⟨m.1,m.2,J⟩) P)) (λ_ c0=>13-Gn c0 M.heap.size)
 case atStart=>exact⟨true,[],[],g0,[],_,c4,_,d5,rfl,Zq,Zq,a,U ⟨e9,rfl,Zq,by simp +contextual⟩,b⟩
 case round=>
  obtain⟨p,e,y,b8,l,b7,P,x,G,rfl,h1,g8,a,k,b⟩:=hrel;obtain⟨ad,c5,rfl⟩:=aW (a.i.th (i:=2) rfl);cases p with
  |true=>
   rw[Y9 rfl,show 13-e.length=(12-e.length)+1 by omega]at b;have e2:=Nc (a.i.th (i:=0) rfl);go_wp21;refine st4 (i:=0) a b (λf9 e7=>XW (Ti f9 (e0.i _ _ (by simp[dY,Th.aH]) λu b2=>a.i.da u (k.i.2.2.2 u (Y5 _ b2))) e7 (a.i.th (i:=0) rfl))) ?_ (λp f6=>SA f6) (λc6 f3=>Sz f3) rfl (by simp[Ad.a3]);rintro⟨⟨s,d4,d9⟩,g6,e5⟩ d5 g1 rfl b4 e4 b a;dsimp only at b4;obtain⟨a5,a6,rfl⟩:=b4.sl;have c8:=Te 13 [] l P s d4 d9 e4.i;have e1:=U c8;clear c8;go_wp21;have a:=U a.i.ag;refine bJ (λc3=>c3.cell? (Zd H.heap.size 5)=some (.slice ad e.length c5)) ?_ λt=>?_
   .exact aC (a.i.th (i:=3) rfl) rfl
   refine bf [0,1,2,3,4,5,6,7] ?_;iterate 8 (refine bi ?_)
   refine bg ?_;refine bI 8 λh f=>?_;(go_simp;refine CZ 1 a b k.i.1 (Ym _ (k.i.2.2.2 _ Yb)) JY (λg b9 a0 I L a7 b a=>?_) (λ_ _ _ c=>xc (xU (dZ (xH c)))) λ_ c=>dv (rT (fc (xG c)));have O:=aC (a.i.th (i:=3) rfl) (i:=5) rfl;obtain⟨a2,c1,E⟩:=oQ g.H;dsimp only[rz];simp only[E.i]);refine f.out _ _ ?_ (λt=>?_)
   .go_keep
   clear f h;refine nz ?_;have a:=U (a.i.A (.cells #[(.slice a5 s.length a6),Zs g.t,Y g.y,.iface a2 c1] 363))
   refine pN 9 ?_;refine bI 10 λh f=>?_;go_simp;refine f.out _ _ ?_ (λt=>?_)
   .go_keep
   clear f h;refine nz ?_;refine bI 11 λh f=>?_;(refine mh LG underlying356 (a.i.th (i:=3) rfl) (vA ((s,g),(.slice a5 s.length a6))) (by simp only[vA,oA,E.i];exact heap_alloc_new L _) (λK b5=>(Yg.1 b5).elim (λC=>C▸rfl) (Gr g K)) Zm (YV _) rfl ?_;intro D B g2 b1 a9 a8 f5;have a:=U (a.i.a4 (i:=3) rfl b1 a9 a8 rfl);have O:=aC (a.i.th (i:=4) rfl) (i:=5) rfl);refine f.out _ _ ?_ (λt=>?_)
   .go_keep
   clear f h;refine nz ?_;have d7:=bl (a.i.th (i:=4) rfl);refine bf [12,13] ?_;iterate 2 (refine bi ?_)
   refine bg ?_;refine bL λh f=>?_;go_simp;refine f.out _ _ ?_;clear f h;refine nz ?_;have a:=U (a.i.aq (i:=4) (j:=5) rfl (.slice (some ⟨D,0,none⟩) (e.length+1) B)).au;go_wp21;refine cM a b (zV _ ·) (λp c4 M b a=>?_) (λ_ _ c=>xc (xU (dZ (gF c)))) (λ_ c=>dv (rT (fc (im c))));have e3:=Nc (a.i.th (i:=0) rfl);go_wp2;have g7:=e1.i;exact⟨⟨p,e++[(s,g)],y++[(.slice a5 s.length a6)],b9,d4,_,c4,e5++x,I,rfl,Zx,Zm,U (by rw[Id k.i.2.1];simpa using a.i),U (k.i.d8 a7 b4),U (b.i.trans (by rw[show 13-(e++[(s,g)]).length=12-e.length by simp]))⟩,by rw[e2,e3];omega⟩
  |false=>
   go_wp21;refine cM a b (pq _ ·) (λp d8 h5 b a=>?_) (λ_ _ c=>xc (xU (dZ (gF c)))) (λ_ c=>dv (rT (fc (im c))));cases p
   case' false=>replace b:af (iX i r w=pP i o ⟨m.1,m.2,J⟩ e d8):=b
   case' true=>
    go_wp21;refine cM a b (hq _ ·) (λg3 i8 d6 b a=>?_) (λ_ _ c=>xc (xU (dZ (gF c)))) (λ_ c=>dv (rT (fc (im c))));go_wp21;have a:=U a.i.ag;refine bJ (λc3=>c3.cell? (Zd H.heap.size 5)=some (.slice ad e.length c5)) ?_ λt=>?_
    .exact aC (a.i.th (i:=3) rfl) rfl
    refine bf [0,1,2,3,4,5,6] ?_;iterate 7 (refine bi ?_)
    refine bg ?_;refine bI 7 λh f=>?_;(go_simp;refine CZ 1 a b k.i.1 (k.i.2.2.2 _ Yb) JY (λg b9 a0 I L a7 b a=>?_) (λ_ _ _ c=>xc (xU (dZ (xH c)))) λ_ c=>dv (rT (fc (xG c)));have O:=aC (a.i.th (i:=3) rfl) (i:=5) rfl;obtain⟨a2,c1,E⟩:=oQ g.H;dsimp only[rz];simp only[E.i]);refine f.out _ _ ?_ (λt=>?_)
    .go_keep
    clear f h;refine nz ?_;have a:=U (a.i.A (.cells #[.slice none 0 0,Zs g.t,Y g.y,.iface a2 c1] 363))
    refine pN 8 ?_;refine bI 9 λh f=>?_;go_simp;refine f.out _ _ ?_ (λt=>?_)
    .go_keep
    clear f h;refine nz ?_;refine bI 10 λh f=>?_;(refine mh LG underlying356 (a.i.th (i:=3) rfl) (vA (([],g),.slice none 0 0)) (by simp only[vA,oA,E.i];exact heap_alloc_new L _) (λK b5=>(Yg.1 b5).elim (λC=>C▸rfl) (Gr g K)) Zm (YV _) rfl ?_;intro D B g2 b1 a9 a8 f5;have a:=U (a.i.a4 (i:=3) rfl b1 a9 a8 rfl);have O:=aC (a.i.th (i:=4) rfl) (i:=5) rfl);refine f.out _ _ ?_ (λt=>?_)
    .go_keep
    clear f h;refine nz ?_;have d7:=bl (a.i.th (i:=4) rfl);refine bf [11,12] ?_;iterate 2 (refine bi ?_)
    refine bg ?_;refine bL λh f=>?_;go_simp;refine f.out _ _ ?_;clear f h;refine nz ?_;have a:=U (a.i.aq (i:=4) (j:=5) rfl (.slice (some ⟨D,0,none⟩) (e.length+1) B)).au;replace b:af (iX i r w=pP i o ⟨m.1,m.2,J⟩ (e++[([],g)]) a0):=b;replace a:af (AK n i [.obj M.heap.size (lG l),.obj z.heap.size I,.row 363 4 (.slice (some ⟨D,0,none⟩) (e.length+1) B) (e++[([],g)]).length (((e++[([],g)]).zip (y++[Value.slice none 0 0])).flatMap vA),.obj H.heap.size (.cells #[.string ⟨o.1.toArray⟩,Y o.2,.string ⟨m.1.toArray⟩,Y m.2,.iface a1 c2,.slice (some ⟨D,0,none⟩) (e.length+1) B] 358)] x a0 q _):=U (by rw[Id k.i.2.1];simpa using a.i)
    replace k:af (Ak _ b9 I (e++[([],g)]) (y++[Value.slice none 0 0]) ([]++x)):=U (k.i.d8 a7 (Y8 ⟨rfl,rfl,rfl⟩))
   all_goals
    go_wp21;refine cM a b (hq _ ·) λi2 i9 h6 b a=>?_;go_wp21;refine cM a b (hq _ ·) λi3 g4 h7 b a=>?_;go_wp2;go_ret;obtain⟨g5,b6,S,b3⟩:=a.i.au.au.gL (by first|omega|(simp;omega));exact⟨b6.kp,Y8 ⟨_,g4,_,_,b.i,rfl,b6.c6.fin,⟨_,_,by rw[<-d2.i];exact Yb,k.i.2.1,S.aZ λ_ c=>Y5 _ c,λd c e8=>(k.i.2.2.1 d c e8).aZ λu b2=>Y5 _ (b3 u b2)⟩,b6.c6.br,rfl⟩⟩
section
def QN(a nq:Nat)(c:fJ)(d:Zw):Prop:=hO a c.1 d/\hn nq c.2 d
def IG{a nq c g h d}(b:QN a nq c g)(f:ap d g h)(e:∀i∈d,i ∉ [a,nq]):QN a nq c h:=⟨b.1.ae f λb=>e _ b Zq,b.2.ae f λb=>e _ b Zq⟩
section
variable {h : Type} {b : Ad} {e : Za} {g : St} {a nq f : Nat} {c : fJ} {d : Zw} {args : Array Zv} {j : h -> Zv}
def Nn{m:PX (Zc) h}(r:a≠nq)(q:ib b nq)(u:QN a nq c d)(n:Calls prog f args d (lW [b.S,a] b e d (m c.1 g) j (hO a))):Calls prog f args d (lW [b.S,a] b e d (kG m c g) j (QN a nq)):=by
 refine n.mono ?_;rintro l x ⟨i,⟨o,v,w,k,rfl,s,p⟩|⟨f,k,t⟩⟩
 .exact⟨i,Y8 ⟨o,(v,c.2),w,xH k,rfl,s,p,u.2.ae i (by simp;exact⟨q.2.2.1,λl=>r l.symm⟩)⟩⟩
 .exact⟨i,Ya ⟨f,xG k,t⟩⟩
def No{l:PX (List (Int×Int)) h}(q:a≠nq)(p:ib b a)(t:QN a nq c d)(m:Calls prog f args d (lW [b.S,nq] b e d (l c.2 g) j (hn nq))):Calls prog f args d (lW [b.S,nq] b e d (oE l c g) j (QN a nq)):=by
 refine m.mono ?_;rintro w x ⟨i,⟨n,u,v,k,rfl,r,o⟩|⟨f,k,s⟩⟩
 .exact⟨i,Y8 ⟨n,(c.1,u),v,Ct k,rfl,r,t.1.ae i (by simp;exact⟨p.2.2.1,q⟩),o⟩⟩
 .exact⟨i,Ya ⟨f,Cs k,s⟩⟩
end
def oI(e:Za):PX fJ gM:=aQ (lift (rU e)) λd=>aQ (kG (name e (cQ 0 0))) λa=>aQ (lift (cu e [40])) λ_=>aQ (lift (rU e)) λb=>aQ (lift (cu e [41])) λ_=>
 aQ (oE (sQ e)) λc=>eJ ⟨a.1,a.2,d,b,c⟩
abbrev pH(a:gM):Zl:=qx a.t a.y++[fY a.cv,fY a.c1,Y a.num]
def DJ{h o:Type}(b:Ad)(e:Za)(d:Zw)(a nq:Nat)(m:Except Mar.ac (h×fJ×St))(j:h->o->Zv)(q:h->o->Zo->Prop)(l:Ending)(g:Zw):Prop:=
 ap [b.R,b.S,b.N,a,nq] d g/\((∃i c p n k,m=.ok (i,c,p)/\l=.returned (j i n)/\Rd b e p g/\QN a nq c g/\q i n k/\dF b.X k g)\/(∃f,m=.error f/\eH d f.no f.y l g))
def acB{b e g a t nq c d}(u:Rd b e g d)(n:ib b a)(m:ib b nq)(y:a≠nq)(D:QN a nq c d)(C:dF b.X (cQ a t).bs d):Calls prog 256 #[Zp b.R,(cQ a t).v,.map (some nq)] d (DJ b e d a nq (oI e c g) (λE (_:Unit)=>.agg (pH E).toArray) λ_ _ _=>True):=by
 have f:=U ((vm (M:=[b.R,b.S,b.N,a,nq]) (F:=[a,nq]) (J:=QN a nq) u C D IG (by simp[u.cD,n.1,m.1])).A (.cells #[.string ⟨#[]⟩,Y 0,.nilIface,.nilIface,Y 0] 446));have h:af (oI e c g=aQ (lift (rU e)) _ c g):=U rfl;have K:¬b.S=a/\¬b.S=nq:=⟨λp=>n.2.2.1 p.symm,λp=>m.2.2.1 p.symm⟩;go_in;go_wp21;refine cM f h (Oq ·) λz a8 P h f=>?_;obtain⟨q,A,w⟩:=oQ z;simp only[w.i];go_wp21;refine tu f h (λl j=>Nn y (m.a3 _) j (uz (EF (n.a3 _)) l j.1 f.i.da)) λk M a9 a0 h f=>?_;dsimp only[jB];have f:=U (f.i.A (.cells #[.string ⟨k.1.toArray⟩,Y k.2,.iface q A,.nilIface,Y 0] 446))
 go_wp21;refine cM f h (hq _ ·) λa5 b0 a1 h f=>?_;go_wp21;refine cM f h (Oq ·) λs b1 a2 h f=>?_;obtain⟨r,B,x⟩:=oQ s;simp only[x.i];have G:=aE (f.i.th (i:=0) rfl);have H:=bl (f.i.th (i:=0) rfl);have f:=U (f.i.aq (i:=0) (j:=3) rfl (.iface r B))
 go_wp21;refine cM f h (hq _ ·) λa6 b2 a3 h f=>?_;go_wp21;refine tu f h (λl j=>No y (n.a3 _) j (KX l (m.a3 _) j.2)) λo O b3 a4 h f=>?_;dsimp only[nO];have G:=aE (f.i.th (i:=0) rfl);have H:=bl (f.i.th (i:=0) rfl);have f:=U (f.i.aq (i:=0) (j:=4) rfl (Y o));have a7:=aE (f.i.th (i:=0) rfl);have l:=aE (f.i.th (i:=1) rfl);have L:=bl (f.i.th (i:=1) rfl);go_wp2;have f:=((((f.i.aq (i:=1) (j:=0) rfl (.string ⟨k.1.toArray⟩)).aq (i:=1) (j:=1) rfl (Y k.2)).aq (i:=1) (j:=2) rfl (.iface q A)).aq (i:=1) (j:=3) rfl (.iface r B)).aq (i:=1) (j:=4) rfl (Y o)
 have l:=aE (f.th (i:=1) rfl);generalize World.setCell _ _ (Y o)=I at *
 refine bodyPost_ret (v:=.agg (pH ⟨k.1,k.2,z,s,o⟩).toArray) ?_ rfl ⟨f.kp,Y8 ⟨_,_,_,(),[],h.i,rfl,f.fin,f.j,trivial,by simp[dF]⟩⟩;simp[results,results256,go_sem,l,w.i,x.i]
end
section
variable {m : Type} {e f : List Nat} {b : Ad} {g : Za} {j : m -> Zw -> Prop} {k : m} {l : St} {c : List Th} {i : List (Nat × Obj)} {d h : Zw}
def OJ{G b0 a9:Type}{J H:Except Mar.ac a9}{O:Except Mar.ac (G×fJ×St)}{a0:G->fJ->St->Except Mar.ac a9}{a2:G->b0->Zv}{a1:G->b0->Zo->Prop}{p o nq a3:Nat}{a7:Obj}{a8:Zc}{F:List (Int×Int)}{args:Array Zv}{Q:Ending->Zw->Prop}(s t:Nat)
  (q:af (bF e f b g j k c i l h d)) (P:af (J=H)) (b7:oj a8 a7) (b9:(a3,Obj.cells #[.map (some o)] 103)∈i)
  (b1:Rd (b.a3 (dY c)) g l d->ib (b.a3 (dY c)) o->ib (b.a3 (dY c)) nq->o≠nq->QN o nq (a8,F) d->dF (b.a3 (dY c)).X (cQ o a3).bs d->Calls prog p args d (DJ (b.a3 (dY c)) g d o nq O a2 a1))
  (ok:∀a z B A n E y u,oj z y->a1 a n E->af (J=a0 a (z,B) A)->af (bF e f b g j k ((c.set s (.obj o y)).set t (.obj nq (lG B))) (E++i) A h u)->Q (.returned (a2 a n)) u)
  (b4:∀a z A,O=.ok (a,z,A)->H=a0 a z A) (b5:∀p,O=.error p->H=.error p)
  (w:c[s]?=some (.obj o a7):=by rfl) (x:c[t]?=some (.obj nq (lG F)):=by rfl) (K:s≠t:=by decide) (v:∀n∈[b.R,b.S,b.N],n∈e/\n ∉ f:=by simp[*])
  (b2:∀{D:Nat} {u:Zw},ap e h u/\(∃p,J=.error p/\eH h p.no p.y (hb D) u)->Q (hb D) u:=by first|exact λm=>bM ⟨m.1,Ya m.2⟩|exact λm=>wn ⟨m.1,Ya m.2⟩):Calls prog p args d Q:=by
 have v:∀n∈[b.R,b.S,b.N,o,nq],n∈e/\n ∉ f\/∃M∈[s,t],∃a,c[M]?=some a/\a.aH=some n:=by
  intro n r;simp at r v ⊢;rcases r with rfl|rfl|rfl|rfl|rfl
  .exact Y8 v.1
  .exact Y8 v.2.1
  .exact Y8 v.2.2
  .exact Ya (Y8 ⟨_,w,rfl⟩)
  .exact Ya (Ya ⟨_,x,rfl⟩)
 refine(b1 q.i.rd (q.i.bV w rfl) (q.i.bV x rfl) (λa4=>q.i.bS.cd s t _ _ K w x o rfl (by rw[a4];rfl)) ⟨b7.y (q.i.th w),q.i.th x⟩ λd0 a6=>by simp only[cQ,Yc]at a6;subst a6;exact q.i.da _ b9).mono ?_;rintro a4 u ⟨a5,⟨a,⟨z,B⟩,A,n,E,r,rfl,c6,⟨L,c4⟩,b6,c2⟩|⟨p,r,D,c0,rfl,c1⟩⟩
 .obtain⟨y,c5,L⟩:=hO.obj L;have c7:=q.i.iP (I:=[s,t]) (L':=(c.set s (.obj o y)).set t (.obj nq (lG B))) a5 c6 (λM b3 C=>by
   have c3:(c.set s (.obj o y))[t]?=some (.obj nq (lG F)):=by rw[YP,Y2 K];exact x
   rcases Ha c3 C with⟨rfl,rfl⟩|⟨c8,C⟩
   .exact⟨_,x,λ_ m=>m,Y8 c4⟩
   .rcases Ha w C with⟨rfl,rfl⟩|⟨c9,C⟩
    .exact⟨_,w,λ_ m=>m,Y8 c5⟩
    .exact⟨b3,C,λ_ m=>m,Ya ⟨by simp[c8,c9],rfl⟩⟩) v
  refine ok a z B A n E y u L b6 (U (P.i.trans (b4 _ _ _ r))) (U (c7.iC (c2.ca λn r=>(Yn.1 r).elim (λm=>Yf _ ?_) (Ym _))));exact FO (a':=.obj o y) w (λ_ m=>m) (FO (a:=.obj nq (lG F)) (a':=.obj nq (lG B)) (by rw[YP,Y2 K];exact x) (λ_ m=>m) m)
 .exact b2 ⟨q.i.kp.eO a5 λn r=>(v n r).imp And.left λ⟨M,_,a,b8,m⟩=>q.i.bS.bX a (Yh b8) n m,p,P.i.trans (b5 _ r),D,Yz q.i.kp.aG c0,rfl,c1⟩
end
section
variable {b:List gM}{c:fJ}{a:St}
def Xd:(prog.info? 446).map (λa=>(a.zero,a.size,a.bytes))=some (some (.agg #[.string ⟨#[]⟩,Y 0,.nilIface,.nilIface,Y 0]),5,64):=Zk
def oe(f:Za):PX (List gM×fJ) Unit:=λb a=>match oI f b.2 a with
 |.ok (c,e,g)=>.ok ((),(b.1++[c],e),g)
 |.error d=>.error d
def HR{f}{e:fJ}{g:St}{d:gM}(h:oI f c a=.ok (d,e,g)):oe f (b,c) a=.ok ((),(b++[d],e),g):=by simp only[oe,h]
theorem HQ{e d}(f:oI e c a=.error d):oe e (b,c) a=.error d:=by simp only[oe,f]
structure JK where
 VB:Nat
 RB:Nat
 rb:Nat
 cb:Nat
 nb:Nat
 q:Nat
 nq:Nat
 bx:Nat
def HS(f:Ad)(a:JK)(c:Zb×Nat)(i:Nat)(b:List gM×fJ)(h:List Th)(g:Zo):Prop:=b.1.length=i/\∃e d,oj b.2.1 d/\(a.bx,Obj.cells #[.map (some a.q)] 103)∈g/\
 h=[.obj a.nb (.cells #[.map (some a.nq)] 149),.obj a.cb (.cells #[(cQ a.q a.bx).v] 341),.obj a.nq (lG b.2.2),.obj a.q d,.row 446 5 e b.1.length (b.1.flatMap pH),.obj a.VB (.cells #[.string ⟨c.1.toArray⟩,Y c.2,e,Y 0] 367),.obj a.RB (.cells #[.string ⟨#[]⟩,Y 0,.slice none 0 0,Y 0] 367),.obj a.rb (.cells #[Zp f.R] 145)]
def abU(a:gM):∀d∈pH a,d.oneCell'=true:=by
 intro d c;simp at c;rcases c with rfl|rfl|rfl|rfl|rfl
 .rfl
 .rfl
 .obtain⟨e,v,b⟩:=oQ a.cv;rw[b.i];rfl
 .obtain⟨e,v,b⟩:=oQ a.c1;rw[b.i];rfl
 .rfl
abbrev IN(b:Ad)(g:Za)(d nq:Nat)(c:fJ)(f:List Th)(e:Zo)(a:St)(i h:Zw):Prop:=bF [b.R,b.S,b.N,d,nq] [d,nq] b g (QN d nq) c f e a i h
theorem ahi{h q z r e p nq E}{y:Nat}{l n m}(x:ib h p)(w:ib h nq)(b1:y<1000)(I:HS h e E y l n m)(f:IN h q p nq c n m a z r):Calls prog 255 #[Zp e.VB,Zp e.rb,Zp e.cb,Zp e.nb] r (yB [h.R,h.S,h.N,p,nq] z (λl a r=>∃n m,HS h e E (y+1) l n m/\IN h q p nq c n m a z r) (oe q l a)):=by
 obtain⟨b,l,P⟩:=l;obtain⟨u,b4,b3,D,K,rfl⟩:=I;obtain⟨ad,H,rfl⟩:=aW (f.th (i:=4) rfl);dsimp only at u D f;have G:=U u;have b0:b.length<1000:=Zm;clear u;have b5:=aC (f.th (i:=5) rfl) (i:=2) rfl;have b6:=aC (f.th (i:=7) rfl) (i:=0) rfl;have b7:=aC (f.th (i:=0) rfl) (i:=0) rfl;have b8:=aC (f.th (i:=1) rfl) (i:=0) rfl;have d:=U f.ag;have A:=U K;go_in;go_wp21;refine bJ (λs=>s.cell? (Zd e.VB 2)=some (.slice ad b.length H)/\s.cell? (Zd e.rb 0)=some (Zp h.R)/\s.cell? (Zd e.cb 0)=some (cQ e.q e.bx).v/\s.cell? (Zd e.nb 0)=some (.map (some e.nq))) ?_ λt=>?_
 .go_keep
 refine bf [0,1,2,3,4] ?_;iterate 5 (refine bi ?_)
 refine bg ?_;refine bI 5 λk g=>?_;(go_simp;refine OJ 3 2 d (U (rfl:oe q (b,l,P) a=_)) D A.i acB (λo a2 a0 a8 c0 a9 a1 a3 O _ F d=>?_) (λ_ _ _ f=>HR f) (λ_ f=>HQ f) rfl rfl Ze (by simp[x.2.1.symm,x.2.2.1.symm,x.2.2.2.1.symm,w.2.1.symm,w.2.2.1.symm,w.2.2.2.1.symm]);have a4:=aC (d.i.th (i:=5) rfl) (i:=2) rfl;have a5:=aC (d.i.th (i:=7) rfl) (i:=0) rfl;have a6:=aC (d.i.th (i:=0) rfl) (i:=0) rfl;have a7:=aC (d.i.th (i:=1) rfl) (i:=0) rfl;dsimp only[pH,qx,List.append_toArray,YX,YT]);refine g.out _ _ ?_ (λt=>?_)
 .go_keep
 clear g k;refine nz ?_;have d:=U (d.i.A (.cells (pH o).toArray 446));refine bI 6 λk g=>?_;go_simp;refine g.out _ _ ?_ (λt=>?_)
 .go_keep
 clear g k;refine nz ?_;refine bI 7 λk g=>?_;(refine mh Xd underlying365 (d.i.th (i:=5) rfl) (pH o) (heap_alloc_new a3 _) (abU o) Zm (YV _) rfl ?_;intro C B b9 M L J b2;have d:=U (d.i.a4 (i:=5) rfl M L J rfl);have a4:=aC (d.i.th (i:=6) rfl) (i:=2) rfl;have a5:=aC (d.i.th (i:=8) rfl) (i:=0) rfl;have a6:=aC (d.i.th (i:=1) rfl) (i:=0) rfl;have a7:=aC (d.i.th (i:=2) rfl) (i:=0) rfl);refine g.out _ _ ?_ (λt=>?_)
 .go_keep
 clear g k;refine nz ?_;have c1:=bl (d.i.th (i:=6) rfl);refine pN 8 ?_;refine bL λk g=>?_;go_simp;refine g.out _ _ ?_;clear g k;refine nz ?_;have d:=U (d.i.aq (i:=6) (j:=2) rfl (.slice (some ⟨C,0,none⟩) (b.length+1) B)).au;go_wp2;go_end0;exact⟨d.i.kp,Y8 ⟨(b++[o],a2,a0),a8,F.i,rfl,_,_,⟨by simp[G.i],.slice (some ⟨C,0,none⟩) (b.length+1) B,a1,O,Ym _ A.i,rfl⟩,by simpa using d.i⟩⟩
end
def ahj(args:Array Zv)(a:Zw):(callFunc 255 args).run prog a=.ok (.enter 255 args) a:=Zk
def ahq(a:Ad)(d:Za)(l:Zw)(b:JK)(c nq:Nat)(k:fJ)(j:Zb×Nat)(i:ib a c)(h:ib a nq):AJ (List gM×fJ) [a.R,a.S,a.N,c,nq] [c,nq] a d (QN c nq) k l 8 where
 f:=255
 id:=#[Zp b.VB,Zp b.rb,Zp b.cb,Zp b.nb]
 a9:=oe d
 T:=HS a b j
 d2:=ahj
 call:=λm g e=>ahi i h Zm g e
def Ap(a:Za)(b:Zb×Nat):PX fJ go:=aQ (lift (lL (ih a 8 (oe a)) ([],([],[])))) λd=>aQ (oE (sQ a)) λc=>eJ ⟨b.1,b.2,d.1,c⟩
def oT(a:Za):PX fJ go:=aQ (lift (cu a Jz)) λ_=>aQ (kG (name a (cQ 0 0))) (Ap a)
def ahk{b k x c A nq u d}(B:Rd b k x d)(n:ib b c)(m:ib b nq)(C:c≠nq)(a2:QN c nq u d)(a0:dF b.X (cQ c A).bs d):Calls prog 203 #[Zp b.R,(cQ c A).v,.map (some nq)] d (DJ b k d c nq (oT k u x) (λv w=>.agg #[Zs v.t,.int .i64 v.y,w,.int .i64 v.num]) λv w K=>fk K 446 w v.ao.length (v.ao.flatMap pH)):=by
 have a8:=jT;have a9:=nN;have D:∀(d:Zw) E,(d.alloc E).heap.size=d.heap.size+1:=Zq;have a:=((vm (M:=[b.R,b.S,b.N,c,nq]) (F:=[c,nq]) (J:=QN c nq) B a0 a2 IG (by simp[B.cD,n.1,m.1])).A (.cells #[Zp b.R] 145)).A (.cells #[.string ⟨#[]⟩,.int .i64 0,.slice none 0 0,.int .i64 0] 367);rw[D]at a;have a:=U a;have e:af (oT k u x=aQ (lift (cu k _)) _ u x):=U rfl;have M:¬b.S=c/\¬b.S=nq:=⟨λl=>n.2.2.1 l.symm,λl=>m.2.2.1 l.symm⟩;have q:=aE (a.i.th (i:=1) rfl);go_in;go_wp21;refine cM a e (hq _ ·) λb8 c2 b4 e a=>?_;have q:=aE (a.i.th (i:=1) rfl);go_wp21;refine tu a e (λj f=>Nn C (m.a3 _) f (uz (EF (n.a3 _)) j f.1 a.i.da)) λg a3 c3 G e a=>?_;dsimp only[jB];have a:=U ((a.i.A (.cells #[.string ⟨g.1.toArray⟩,.int .i64 g.2,.slice none 0 0,.int .i64 0] 367)).nil 446 5);go_wp21;generalize World.alloc G _=h at *
 refine(AT _).mono ?_;rintro l b5 ⟨rfl,rfl⟩;have a:=(((((a.i.A (.map #[] 0)).A (.cells #[.map (some h.heap.size)] 103)).c6).A (.map #[] 0)).A (.cells #[(cQ h.heap.size (h.heap.size+1)).v] 341)).A (.cells #[.map (some (h.heap.size+1+1))] 149);simp only[D]at a;have a:=U a;have q:=aE (a.i.th (i:=7) rfl);dsimp only[fj.v,cQ]at q ⊢;go_wp21;refine(Eu 8 (ahq b k d ⟨G.heap.size,d.heap.size+1,d.heap.size,h.heap.size+1+1+1,h.heap.size+1+1+1+1,h.heap.size,h.heap.size+1+1,h.heap.size+1⟩ c nq a3 g n m) (t:=([],[],[])) Zm (by simp[M]) ⟨rfl,_,_,AM,Yb,rfl⟩ a.i).mono ?_;rintro l b6 ⟨a1,⟨⟨p,b2⟩,c4,y,rfl,b0,a7,a5,a4,⟨rfl,w,E,-,-,rfl⟩,z⟩|⟨L,y,I,O,rfl,P⟩⟩;rotate_left
 .exact bM ⟨a1,Ya ⟨L,e.i.trans (fc (im (zT y))),I,O,rfl,P⟩⟩
 have e:=U (e.i.trans (dZ (gF (zU y))));have a:=U z;have q:=aE (a.i.th (i:=7) rfl);clear z;go_wp21;refine tu a e (λj f=>No C (n.a3 _) f (KX j (m.a3 _) f.2)) λo b3 c5 b7 e a=>?_;obtain⟨ad,r,rfl⟩:=aW (a.i.th (i:=4) rfl);dsimp only[nO];have c0:=aE (a.i.th (i:=5) rfl);have c1:=bl (a.i.th (i:=5) rfl);have a:=U (a.i.aq (i:=5) (j:=3) rfl (.int .i64 o));have b9:=aE (a.i.th (i:=5) rfl);have j:=aE (a.i.th (i:=6) rfl);have b1:=bl (a.i.th (i:=6) rfl);go_wp2;have a:=(((a.i.aq (i:=6) (j:=0) rfl (.string ⟨g.1.toArray⟩)).aq (i:=6) (j:=1) rfl (.int .i64 g.2)).aq (i:=6) (j:=2) rfl (.slice ad p.length r)).aq (i:=6) (j:=3) rfl (.int .i64 o);have j:=aE (a.th (i:=6) rfl);generalize World.setCell (World.setCell _ _ (.slice ad p.length r)) _ (.int .i64 o)=a6 at *
 obtain⟨H,s,S,-⟩:=a.au.au.au.au.gL Zm;refine bodyPost_ret (v:=.agg #[.string ⟨g.1.toArray⟩,.int .i64 g.2,.slice ad p.length r,.int .i64 o]) ?_ rfl ⟨s.kp,Y8 ⟨⟨g.1,g.2,p,o⟩,_,_,.slice ad p.length r,H,e.i,rfl,s.fin,s.j,S,s.br⟩⟩;simp[results,results203,go_sem,j]
end Go.Proofs.YtjdhaegijjednaaGreatDoor
