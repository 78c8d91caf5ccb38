/- The library's contracts at this translation: each one application of a contract of the shelf. -/
import Derived.Shelf.Strings.Builder1
import Derived.Shelf.Strings.Builder2
import Derived.Shelf.Strings.Trim
import Derived.Shelf.Small.Utf8
import Derived.Shelf.Small.Bits
import Derived.Shelf.Small.Strs
import Derived.Shelf.Small.Wraps
import Derived.Shelf.Strings.BuilderF
import Derived.Shelf.Strings.BuilderK
import Derived.Shelf.Utf8.RuneCount
import Derived.Shelf.Strings.Builder2Cap
import Derived.Shelf.Strconv.Itoa0
import Derived.Shelf.Strconv.Itoa1
import Derived.Shelf.LaysM
import Derived.Shelf.Strconv.Itoa2
import Derived.Shelf.Strings.Search1
import Derived.Shelf.Strings.Search2
import Derived.Shelf.Strings.Search3
import Derived.Shelf.Strings.Cut
import Derived.Shelf.Strings.Count
import Derived.Shelf.Strings.Shaped
import Derived.Shelf.Strings.Prefix
import Derived.Shelf.Strings.Split
import Derived.Shelf.Strings.SplitShaped
import Derived.Shelf.Unicode.Decode
import Derived.Shelf.Strings.Runes
import Derived.Shelf.Strings.RuneCount
import Derived.Shelf.Strings.AsciiSet
import Derived.Shelf.Strings.Explode
import Derived.Shelf.Bits.Mul64
import Derived.Shelf.Strings.Repeat
import Derived.Shelf.Unicode.DecodeSlow
import Derived.Test.YthblidglcppakaaGreatDoorProg
namespace Go.Proofs
open Go.Shelf
def Tryz.lays169_ren:Go.Shelf.Ren:=⟨fun | 169=>115 | n=>n,fun | 70=>157 | 9=>9 | 0=>0 | 72=>160 | 37=>158 | 127=>195 | 3=>3 | 5=>5 | n=>n,fun | n=>n⟩
theorem Tryz.lays169:Go.Proofs.Lays.n169 Tryz.prog Tryz.lays169_ren:={
  mixed:=by kernel_rfl
  f169:=Tryz.func115.trans (congrArg some (by kernel_rfl))
  t0:=Tryz.underlying0
  a0:=Tryz.isAgg0
  z0:=Tryz.sizeOf0
  v0:=Tryz.zeroValue0
  t3:=Tryz.underlying3
  a3:=Tryz.isAgg3
  z3:=Tryz.sizeOf3
  v3:=Tryz.zeroValue3
  t9:=Tryz.underlying9
  a9:=Tryz.isAgg9
  z9:=Tryz.sizeOf9
  v9:=Tryz.zeroValue9
  t37:=Tryz.underlying158
  a37:=Tryz.isAgg158
  z37:=Tryz.sizeOf158
  v37:=Tryz.zeroValue158
  t70:=Tryz.underlying157
  a70:=Tryz.isAgg157
  z70:=Tryz.sizeOf157
  v70:=Tryz.zeroValue157
  t72:=Tryz.underlying160
  a72:=Tryz.isAgg160
  z72:=Tryz.sizeOf160
  v72:=Tryz.zeroValue160
  t127:=Tryz.underlying195
  a127:=Tryz.isAgg195
  z127:=Tryz.sizeOf195
  v127:=Tryz.zeroValue195 }
theorem Tryz.Builder_Extra_169:Builder.Extra Tryz.prog Tryz.lays169_ren:={
  sizeBuilder:=by kernel_rfl
  liesBuilder:=by kernel_rfl
  t5:=Tryz.underlying5
  a5:=Tryz.isAgg5
  z5:=Tryz.sizeOf5
  v5:=Tryz.zeroValue5
  infoByte:=by kernel_rfl
  cellsByte:=by kernel_rfl
  sizeByte:=by kernel_rfl
  neB5:=by decide }
open Go.RowKit in
theorem Tryz.Builder_String (B b:Nat) (l:List UInt8) (w:World) (h:Lib.IsBuilder 160 5 B b (Lib.byteCells l) w) (h0:l≠[]) :
    Calls Tryz.prog 115 #[.pointer (some ⟨b,0,none⟩)] w fun e w'=>e=.returned (.string ⟨l.toArray⟩)∧Below B w w':=Any.Builder_String Tryz.lays169 Tryz.Builder_Extra_169 B b l w h h0
def Tryz.lays160_ren:Go.Shelf.Ren:=⟨fun | 160=>28 | 232=>56 | 231=>55 | 227=>57 | 234=>59 | 233=>58 | 236=>61 | 235=>60 | 228=>87 | 271=>90 | 151=>89 | 197=>88 | 120=>121 | 152=>120 | 260=>119 | 137=>155 | 119=>156 | 224=>153 | 225=>152 | 217=>151 | 266=>187 | n=>n,fun | 9=>9 | 4=>4 | 3=>3 | 5=>5 | 117=>104 | 116=>103 | 0=>0 | 124=>107 | 21=>21 | 105=>137 | 46=>141 | 119=>196 | 139=>199 | 138=>198 | n=>n,fun | 3=>2 | 4=>3 | n=>n⟩
theorem Tryz.lays160:Go.Proofs.Lays.n160 Tryz.prog Tryz.lays160_ren:={
  mixed:=by kernel_rfl
  f119:=Tryz.func156.trans (congrArg some (by kernel_rfl))
  f120:=Tryz.func121.trans (congrArg some (by kernel_rfl))
  f137:=Tryz.func155.trans (congrArg some (by kernel_rfl))
  f151:=Tryz.func89.trans (congrArg some (by kernel_rfl))
  f152:=Tryz.func120.trans (congrArg some (by kernel_rfl))
  f160:=Tryz.func28.trans (congrArg some (by kernel_rfl))
  f197:=Tryz.func88.trans (congrArg some (by kernel_rfl))
  f217:=Tryz.func151.trans (congrArg some (by kernel_rfl))
  f224:=Tryz.func153.trans (congrArg some (by kernel_rfl))
  f225:=Tryz.func152.trans (congrArg some (by kernel_rfl))
  f227:=Tryz.func57.trans (congrArg some (by kernel_rfl))
  f228:=Tryz.func87.trans (congrArg some (by kernel_rfl))
  f231:=Tryz.func55.trans (congrArg some (by kernel_rfl))
  f232:=Tryz.func56.trans (congrArg some (by kernel_rfl))
  f233:=Tryz.func58.trans (congrArg some (by kernel_rfl))
  f234:=Tryz.func59.trans (congrArg some (by kernel_rfl))
  f235:=Tryz.func60.trans (congrArg some (by kernel_rfl))
  f236:=Tryz.func61.trans (congrArg some (by kernel_rfl))
  f260:=Tryz.func119.trans (congrArg some (by kernel_rfl))
  f266:=Tryz.func187.trans (congrArg some (by kernel_rfl))
  f271:=Tryz.func90.trans (congrArg some (by kernel_rfl))
  t0:=Tryz.underlying0
  a0:=Tryz.isAgg0
  z0:=Tryz.sizeOf0
  v0:=Tryz.zeroValue0
  t3:=Tryz.underlying3
  a3:=Tryz.isAgg3
  z3:=Tryz.sizeOf3
  v3:=Tryz.zeroValue3
  t4:=Tryz.underlying4
  a4:=Tryz.isAgg4
  z4:=Tryz.sizeOf4
  v4:=Tryz.zeroValue4
  t5:=Tryz.underlying5
  a5:=Tryz.isAgg5
  z5:=Tryz.sizeOf5
  v5:=Tryz.zeroValue5
  t9:=Tryz.underlying9
  a9:=Tryz.isAgg9
  z9:=Tryz.sizeOf9
  v9:=Tryz.zeroValue9
  t21:=Tryz.underlying21
  a21:=Tryz.isAgg21
  z21:=Tryz.sizeOf21
  v21:=Tryz.zeroValue21
  t46:=Tryz.underlying141
  a46:=Tryz.isAgg141
  z46:=Tryz.sizeOf141
  v46:=Tryz.zeroValue141
  t105:=Tryz.underlying137
  a105:=Tryz.isAgg137
  z105:=Tryz.sizeOf137
  v105:=Tryz.zeroValue137
  t116:=Tryz.underlying103
  a116:=Tryz.isAgg103
  z116:=Tryz.sizeOf103
  t117:=Tryz.underlying104
  a117:=Tryz.isAgg104
  z117:=Tryz.sizeOf104
  v117:=Tryz.zeroValue104
  t119:=Tryz.underlying196
  a119:=Tryz.isAgg196
  z119:=Tryz.sizeOf196
  t124:=Tryz.underlying107
  a124:=Tryz.isAgg107
  z124:=Tryz.sizeOf107
  v124:=Tryz.zeroValue107
  t138:=Tryz.underlying198
  a138:=Tryz.isAgg198
  z138:=Tryz.sizeOf198
  v138:=Tryz.zeroValue198
  t139:=Tryz.underlying199
  a139:=Tryz.isAgg199
  z139:=Tryz.sizeOf199
  v139:=Tryz.zeroValue199
  g3:=by kernel_rfl
  g4:=by kernel_rfl }
def Tryz.lays128_ren:Go.Shelf.Ren:=⟨fun | 128=>169 | n=>n,fun | 51=>140 | 3=>3 | 4=>4 | 46=>141 | 5=>5 | 9=>9 | n=>n,fun | n=>n⟩
theorem Tryz.lays128:Go.Proofs.Lays.n128 Tryz.prog Tryz.lays128_ren:={
  mixed:=by kernel_rfl
  f128:=Tryz.func169.trans (congrArg some (by kernel_rfl))
  t3:=Tryz.underlying3
  a3:=Tryz.isAgg3
  z3:=Tryz.sizeOf3
  v3:=Tryz.zeroValue3
  t4:=Tryz.underlying4
  a4:=Tryz.isAgg4
  z4:=Tryz.sizeOf4
  v4:=Tryz.zeroValue4
  t5:=Tryz.underlying5
  a5:=Tryz.isAgg5
  z5:=Tryz.sizeOf5
  v5:=Tryz.zeroValue5
  t9:=Tryz.underlying9
  a9:=Tryz.isAgg9
  z9:=Tryz.sizeOf9
  v9:=Tryz.zeroValue9
  t46:=Tryz.underlying141
  a46:=Tryz.isAgg141
  z46:=Tryz.sizeOf141
  v46:=Tryz.zeroValue141
  t51:=Tryz.underlying140
  a51:=Tryz.isAgg140
  z51:=Tryz.sizeOf140
  v51:=Tryz.zeroValue140 }
theorem Tryz.bits_Len32 (x:Int) (w:World) (h0:0≤x) (h1:x≤4294967295) :
    Calls Tryz.prog 169 #[.int .u32 x] w fun e w'=>e=.returned (.int .i64 (Lib.bitLen x.toNat))∧w'=w:=Any.bits_Len32 Tryz.lays128 x w h0 h1
def Tryz.lays133_ren:Go.Shelf.Ren:=⟨fun | 133=>190 | 128=>169 | n=>n,fun | 51=>140 | 3=>3 | 4=>4 | 46=>141 | 5=>5 | 9=>9 | n=>n,fun | n=>n⟩
theorem Tryz.lays133:Go.Proofs.Lays.n133 Tryz.prog Tryz.lays133_ren:={
  mixed:=by kernel_rfl
  f128:=Tryz.func169.trans (congrArg some (by kernel_rfl))
  f133:=Tryz.func190.trans (congrArg some (by kernel_rfl))
  t3:=Tryz.underlying3
  a3:=Tryz.isAgg3
  z3:=Tryz.sizeOf3
  v3:=Tryz.zeroValue3
  t4:=Tryz.underlying4
  a4:=Tryz.isAgg4
  z4:=Tryz.sizeOf4
  v4:=Tryz.zeroValue4
  t5:=Tryz.underlying5
  a5:=Tryz.isAgg5
  z5:=Tryz.sizeOf5
  v5:=Tryz.zeroValue5
  t9:=Tryz.underlying9
  a9:=Tryz.isAgg9
  z9:=Tryz.sizeOf9
  v9:=Tryz.zeroValue9
  t46:=Tryz.underlying141
  a46:=Tryz.isAgg141
  z46:=Tryz.sizeOf141
  v46:=Tryz.zeroValue141
  t51:=Tryz.underlying140
  a51:=Tryz.isAgg140
  z51:=Tryz.sizeOf140
  v51:=Tryz.zeroValue140 }
theorem Tryz.bits_LeadingZeros32 (x:Int) (w:World) (h0:0≤x) (h1:x≤4294967295) :
    Calls Tryz.prog 190 #[.int .u32 x] w fun e w'=>e=.returned (.int .i64 (32-(Lib.bitLen x.toNat:Int)))∧w'=w:=Any.bits_LeadingZeros32 Tryz.lays133 x w h0 h1
def Tryz.lays103_ren:Go.Shelf.Ren:=⟨fun | 103=>127 | 210=>157 | 206=>53 | n=>n,fun | 9=>9 | 4=>4 | 24=>175 | 3=>3 | n=>n,fun | n=>n⟩
theorem Tryz.lays103:Go.Proofs.Lays.n103 Tryz.prog Tryz.lays103_ren:={
  mixed:=by kernel_rfl
  f103:=Tryz.func127.trans (congrArg some (by kernel_rfl))
  f206:=Tryz.func53.trans (congrArg some (by kernel_rfl))
  f210:=Tryz.func157.trans (congrArg some (by kernel_rfl))
  t3:=Tryz.underlying3
  a3:=Tryz.isAgg3
  z3:=Tryz.sizeOf3
  v3:=Tryz.zeroValue3
  t4:=Tryz.underlying4
  a4:=Tryz.isAgg4
  z4:=Tryz.sizeOf4
  v4:=Tryz.zeroValue4
  t9:=Tryz.underlying9
  a9:=Tryz.isAgg9
  z9:=Tryz.sizeOf9
  v9:=Tryz.zeroValue9
  t24:=Tryz.underlying175
  a24:=Tryz.isAgg175
  z24:=Tryz.sizeOf175
  v24:=Tryz.zeroValue175 }
open Go.RowKit in
theorem Tryz.strings_CutPrefix (s p:ByteArray) (w:World) :
    Calls Tryz.prog 127 #[.string s,.string p] w fun e w'=>e=.returned (.tuple #[.string ⟨(Lib.trimPrefix s.data.toList p.data.toList).toArray⟩,.bool (Lib.hasPrefix s.data.toList p.data.toList)])∧w'=w:=Any.strings_CutPrefix Tryz.lays103 s p w
def Tryz.lays283_ren:Go.Shelf.Ren:=⟨fun | 283=>179 | n=>n,fun | 3=>3 | 9=>9 | 4=>4 | n=>n,fun | n=>n⟩
theorem Tryz.lays283:Go.Proofs.Lays.n283 Tryz.prog Tryz.lays283_ren:={
  mixed:=by kernel_rfl
  f283:=Tryz.func179.trans (congrArg some (by kernel_rfl))
  t3:=Tryz.underlying3
  a3:=Tryz.isAgg3
  z3:=Tryz.sizeOf3
  v3:=Tryz.zeroValue3
  t4:=Tryz.underlying4
  a4:=Tryz.isAgg4
  z4:=Tryz.sizeOf4
  v4:=Tryz.zeroValue4
  t9:=Tryz.underlying9
  a9:=Tryz.isAgg9
  z9:=Tryz.sizeOf9
  v9:=Tryz.zeroValue9 }
open Go.Lib in
theorem Tryz.internal_strconv_small (i:Nat) (h:i<100) (w:World) :
    Calls Tryz.prog 179 #[.int .i64 i] w fun e w'=>e=.returned (.string ⟨(Lib.decDigits i).toArray⟩)∧w'=w:=Any.internal_strconv_small Tryz.lays283 i h w
def Tryz.laysM284_ren:Go.Shelf.Ren:=⟨fun | 284=>180 | 129=>199 | 317=>198 | 318=>200 | n=>n,fun | 53=>110 | 3=>3 | 212=>243 | 0=>0 | 4=>4 | 46=>141 | 5=>5 | 9=>9 | n=>n,fun | 17=>4 | n=>n⟩
theorem Tryz.laysM284:Go.Proofs.LaysM.n284 Tryz.prog Tryz.laysM284_ren:={
  mixed:=by kernel_rfl
  f129:=Tryz.func199.trans (congrArg some (by kernel_rfl))
  f284:=Tryz.func180.trans (congrArg some (by kernel_rfl))
  f317:=Tryz.func198.trans (congrArg some (by kernel_rfl))
  f318:=Tryz.func200.trans (congrArg some (by kernel_rfl))
  t0:=Tryz.underlying0
  a0:=Tryz.isAgg0
  z0:=Tryz.sizeOf0
  v0:=Tryz.zeroValue0
  t3:=Tryz.underlying3
  a3:=Tryz.isAgg3
  z3:=Tryz.sizeOf3
  v3:=Tryz.zeroValue3
  t4:=Tryz.underlying4
  a4:=Tryz.isAgg4
  z4:=Tryz.sizeOf4
  v4:=Tryz.zeroValue4
  t5:=Tryz.underlying5
  a5:=Tryz.isAgg5
  z5:=Tryz.sizeOf5
  v5:=Tryz.zeroValue5
  t9:=Tryz.underlying9
  a9:=Tryz.isAgg9
  z9:=Tryz.sizeOf9
  v9:=Tryz.zeroValue9
  t46:=Tryz.underlying141
  a46:=Tryz.isAgg141
  z46:=Tryz.sizeOf141
  v46:=Tryz.zeroValue141
  t53:=Tryz.underlying110
  a53:=Tryz.isAgg110
  z53:=Tryz.sizeOf110
  v53:=Tryz.zeroValue110
  t212:=Tryz.underlying243
  a212:=Tryz.isAgg243
  z212:=Tryz.sizeOf243
  v212:=Tryz.zeroValue243
  g17:=by kernel_rfl
  i0:=by kernel_rfl
  i3:=by kernel_rfl
  i4:=by kernel_rfl
  i5:=by kernel_rfl
  i9:=by kernel_rfl
  i46:=by kernel_rfl
  i53:=by kernel_rfl
  i212:=by kernel_rfl
  m17:=by kernel_rfl }
open Go.Lib in
theorem Tryz.internal_strconv_numDigits (u:Nat) (h1:1≤u) (h2:u<18446744073709551616) (w:World) (htab:Lib.TabIs Tryz.prog w "internal/strconv.uint64pow10" .u64 Lib.pow10Tab) :
    Calls Tryz.prog 180 #[.int .u64 u] w fun e w'=>e=.returned (.int .i64 (Lib.nDigits u))∧w'=w:=Any.internal_strconv_numDigits Tryz.laysM284 u h1 h2 w htab
def Tryz.lays285_ren:Go.Shelf.Ren:=⟨fun | 285=>181 | n=>n,fun | 37=>158 | 53=>110 | 3=>3 | 4=>4 | 51=>140 | 9=>9 | 5=>5 | 0=>0 | n=>n,fun | n=>n⟩
theorem Tryz.lays285:Go.Proofs.Lays.n285 Tryz.prog Tryz.lays285_ren:={
  mixed:=by kernel_rfl
  f285:=Tryz.func181.trans (congrArg some (by kernel_rfl))
  t0:=Tryz.underlying0
  a0:=Tryz.isAgg0
  z0:=Tryz.sizeOf0
  v0:=Tryz.zeroValue0
  t3:=Tryz.underlying3
  a3:=Tryz.isAgg3
  z3:=Tryz.sizeOf3
  v3:=Tryz.zeroValue3
  t4:=Tryz.underlying4
  a4:=Tryz.isAgg4
  z4:=Tryz.sizeOf4
  v4:=Tryz.zeroValue4
  t5:=Tryz.underlying5
  a5:=Tryz.isAgg5
  z5:=Tryz.sizeOf5
  v5:=Tryz.zeroValue5
  t9:=Tryz.underlying9
  a9:=Tryz.isAgg9
  z9:=Tryz.sizeOf9
  v9:=Tryz.zeroValue9
  t37:=Tryz.underlying158
  a37:=Tryz.isAgg158
  z37:=Tryz.sizeOf158
  v37:=Tryz.zeroValue158
  t51:=Tryz.underlying140
  a51:=Tryz.isAgg140
  z51:=Tryz.sizeOf140
  v51:=Tryz.zeroValue140
  t53:=Tryz.underlying110
  a53:=Tryz.isAgg110
  z53:=Tryz.sizeOf110
  v53:=Tryz.zeroValue110 }
open Go.RowKit Go.Sort Go.Lib in
theorem Tryz.internal_strconv_formatBase10 (blk off cap:Nat) (u:Nat) (d:Array UInt8) (w:World) (hH:Holds (fun (b:UInt8)=>Value.int .u8 (b.toNat:Int)) w blk off d) (hu:u<10^d.size) (hu64:u<18446744073709551616) (hsz:d.size<4611686018427387904) :
    Calls Tryz.prog 181 #[.slice (some ⟨blk,off,none⟩) d.size cap,.int .u64 u] w fun e w' =>
      e=.returned (.tuple #[])∧∃ (n v':Nat) (dk:Array UInt8),w'=(putRow (fun (b:UInt8)=>Value.int .u8 (b.toNat:Int)) w blk off dk).drewN n∧FmtInv d.size u 0 v' dk:=Any.internal_strconv_formatBase10 Tryz.lays285 blk off cap u d w hH hu hu64 hsz
def Tryz.lays145_ren:Go.Shelf.Ren:=⟨fun | 145=>128 | 220=>158 | 219=>118 | 217=>151 | 225=>152 | 224=>153 | 267=>154 | 266=>187 | 314=>188 | n=>n,fun | 9=>9 | 4=>4 | 59=>177 | 3=>3 | 5=>5 | 46=>141 | 146=>229 | 51=>140 | n=>n,fun | 1=>1 | n=>n⟩
theorem Tryz.lays145:Go.Proofs.Lays.n145 Tryz.prog Tryz.lays145_ren:={
  mixed:=by kernel_rfl
  f145:=Tryz.func128.trans (congrArg some (by kernel_rfl))
  f217:=Tryz.func151.trans (congrArg some (by kernel_rfl))
  f219:=Tryz.func118.trans (congrArg some (by kernel_rfl))
  f220:=Tryz.func158.trans (congrArg some (by kernel_rfl))
  f224:=Tryz.func153.trans (congrArg some (by kernel_rfl))
  f225:=Tryz.func152.trans (congrArg some (by kernel_rfl))
  f266:=Tryz.func187.trans (congrArg some (by kernel_rfl))
  f267:=Tryz.func154.trans (congrArg some (by kernel_rfl))
  f314:=Tryz.func188.trans (congrArg some (by kernel_rfl))
  t3:=Tryz.underlying3
  a3:=Tryz.isAgg3
  z3:=Tryz.sizeOf3
  v3:=Tryz.zeroValue3
  t4:=Tryz.underlying4
  a4:=Tryz.isAgg4
  z4:=Tryz.sizeOf4
  v4:=Tryz.zeroValue4
  t5:=Tryz.underlying5
  a5:=Tryz.isAgg5
  z5:=Tryz.sizeOf5
  v5:=Tryz.zeroValue5
  t9:=Tryz.underlying9
  a9:=Tryz.isAgg9
  z9:=Tryz.sizeOf9
  v9:=Tryz.zeroValue9
  t46:=Tryz.underlying141
  a46:=Tryz.isAgg141
  z46:=Tryz.sizeOf141
  v46:=Tryz.zeroValue141
  t51:=Tryz.underlying140
  a51:=Tryz.isAgg140
  z51:=Tryz.sizeOf140
  v51:=Tryz.zeroValue140
  t59:=Tryz.underlying177
  a59:=Tryz.isAgg177
  z59:=Tryz.sizeOf177
  v59:=Tryz.zeroValue177
  t146:=Tryz.underlying229
  a146:=Tryz.isAgg229
  z146:=Tryz.sizeOf229
  v146:=Tryz.zeroValue229
  g1:=by kernel_rfl }
open Go.RowKit Go.Lib in
theorem Tryz.strings_Cut (s sep:ByteArray) (m:Int) (w:World) (hs:s.size<4294967281) (hm:w.cell? ⟨1,0,none⟩=some (.int .i64 m)) :
    Calls Tryz.prog 128 #[.string s,.string sep] w fun e w'=>e=.returned (.tuple #[.string ⟨(Lib.cut s.data.toList sep.data.toList).1.toArray⟩,.string ⟨(Lib.cut s.data.toList sep.data.toList).2.1.toArray⟩,.bool (Lib.cut s.data.toList sep.data.toList).2.2])∧∃ n,w'=w.drewN n:=Any.strings_Cut Tryz.lays145 s sep m w hs hm
def Tryz.laysM143_ren:Go.Shelf.Ren:=⟨fun | 143=>86 | 219=>118 | 217=>151 | 225=>152 | 224=>153 | 267=>154 | 266=>187 | 314=>188 | n=>n,fun | 9=>9 | 3=>3 | 4=>4 | 5=>5 | 46=>141 | 146=>229 | 51=>140 | n=>n,fun | 1=>1 | n=>n⟩
theorem Tryz.laysM143:Go.Proofs.LaysM.n143 Tryz.prog Tryz.laysM143_ren:={
  mixed:=by kernel_rfl
  f143:=Tryz.func86.trans (congrArg some (by kernel_rfl))
  f217:=Tryz.func151.trans (congrArg some (by kernel_rfl))
  f219:=Tryz.func118.trans (congrArg some (by kernel_rfl))
  f224:=Tryz.func153.trans (congrArg some (by kernel_rfl))
  f225:=Tryz.func152.trans (congrArg some (by kernel_rfl))
  f266:=Tryz.func187.trans (congrArg some (by kernel_rfl))
  f267:=Tryz.func154.trans (congrArg some (by kernel_rfl))
  f314:=Tryz.func188.trans (congrArg some (by kernel_rfl))
  t3:=Tryz.underlying3
  a3:=Tryz.isAgg3
  z3:=Tryz.sizeOf3
  v3:=Tryz.zeroValue3
  t4:=Tryz.underlying4
  a4:=Tryz.isAgg4
  z4:=Tryz.sizeOf4
  v4:=Tryz.zeroValue4
  t5:=Tryz.underlying5
  a5:=Tryz.isAgg5
  z5:=Tryz.sizeOf5
  v5:=Tryz.zeroValue5
  t9:=Tryz.underlying9
  a9:=Tryz.isAgg9
  z9:=Tryz.sizeOf9
  v9:=Tryz.zeroValue9
  t46:=Tryz.underlying141
  a46:=Tryz.isAgg141
  z46:=Tryz.sizeOf141
  v46:=Tryz.zeroValue141
  t51:=Tryz.underlying140
  a51:=Tryz.isAgg140
  z51:=Tryz.sizeOf140
  v51:=Tryz.zeroValue140
  t146:=Tryz.underlying229
  a146:=Tryz.isAgg229
  z146:=Tryz.sizeOf229
  v146:=Tryz.zeroValue229
  g1:=by kernel_rfl
  i3:=by kernel_rfl
  i4:=by kernel_rfl
  i5:=by kernel_rfl
  i9:=by kernel_rfl
  i46:=by kernel_rfl
  i51:=by kernel_rfl
  i146:=by kernel_rfl
  m1:=by kernel_rfl
  s1_3:=fun w h=>Go.Proofs.cell_of_shapedOpen_int (zero:=#[.int .i64 0]) (t:=3) h (of_decide_eq_true (by kernel_rfl)) (by kernel_rfl) rfl (by kernel_rfl) (by kernel_rfl) Tryz.underlying3 }
def Tryz.lays99_ren:Go.Shelf.Ren:=⟨fun | 99=>25 | 206=>53 | n=>n,fun | 9=>9 | 4=>4 | 3=>3 | n=>n,fun | n=>n⟩
theorem Tryz.lays99:Go.Proofs.Lays.n99 Tryz.prog Tryz.lays99_ren:={
  mixed:=by kernel_rfl
  f99:=Tryz.func25.trans (congrArg some (by kernel_rfl))
  f206:=Tryz.func53.trans (congrArg some (by kernel_rfl))
  t3:=Tryz.underlying3
  a3:=Tryz.isAgg3
  z3:=Tryz.sizeOf3
  v3:=Tryz.zeroValue3
  t4:=Tryz.underlying4
  a4:=Tryz.isAgg4
  z4:=Tryz.sizeOf4
  v4:=Tryz.zeroValue4
  t9:=Tryz.underlying9
  a9:=Tryz.isAgg9
  z9:=Tryz.sizeOf9
  v9:=Tryz.zeroValue9 }
open Go.RowKit Go.Lib in
theorem Tryz.strings_HasPrefix (s p:ByteArray) (w:World) :
    Calls Tryz.prog 25 #[.string s,.string p] w fun e w'=>e=.returned (.bool (Lib.hasPrefix s.data.toList p.data.toList))∧w'=w:=Any.strings_HasPrefix Tryz.lays99 s p w
def Tryz.lays147_ren:Go.Shelf.Ren:=⟨fun | 147=>26 | 221=>54 | 268=>84 | 138=>85 | 143=>86 | 195=>116 | 197=>88 | 218=>117 | 219=>118 | 260=>119 | 217=>151 | 225=>152 | 224=>153 | 267=>154 | 266=>187 | 314=>188 | n=>n,fun | 9=>9 | 3=>3 | 31=>72 | 4=>4 | 0=>0 | 105=>137 | 21=>21 | 5=>5 | 46=>141 | 119=>196 | 139=>199 | 138=>198 | 146=>229 | 51=>140 | n=>n,fun | 1=>1 | 3=>2 | 4=>3 | n=>n⟩
theorem Tryz.lays147:Go.Proofs.Lays.n147 Tryz.prog Tryz.lays147_ren:={
  mixed:=by kernel_rfl
  f138:=Tryz.func85.trans (congrArg some (by kernel_rfl))
  f143:=Tryz.func86.trans (congrArg some (by kernel_rfl))
  f147:=Tryz.func26.trans (congrArg some (by kernel_rfl))
  f195:=Tryz.func116.trans (congrArg some (by kernel_rfl))
  f197:=Tryz.func88.trans (congrArg some (by kernel_rfl))
  f217:=Tryz.func151.trans (congrArg some (by kernel_rfl))
  f218:=Tryz.func117.trans (congrArg some (by kernel_rfl))
  f219:=Tryz.func118.trans (congrArg some (by kernel_rfl))
  f221:=Tryz.func54.trans (congrArg some (by kernel_rfl))
  f224:=Tryz.func153.trans (congrArg some (by kernel_rfl))
  f225:=Tryz.func152.trans (congrArg some (by kernel_rfl))
  f260:=Tryz.func119.trans (congrArg some (by kernel_rfl))
  f266:=Tryz.func187.trans (congrArg some (by kernel_rfl))
  f267:=Tryz.func154.trans (congrArg some (by kernel_rfl))
  f268:=Tryz.func84.trans (congrArg some (by kernel_rfl))
  f314:=Tryz.func188.trans (congrArg some (by kernel_rfl))
  t0:=Tryz.underlying0
  a0:=Tryz.isAgg0
  z0:=Tryz.sizeOf0
  v0:=Tryz.zeroValue0
  t3:=Tryz.underlying3
  a3:=Tryz.isAgg3
  z3:=Tryz.sizeOf3
  v3:=Tryz.zeroValue3
  t4:=Tryz.underlying4
  a4:=Tryz.isAgg4
  z4:=Tryz.sizeOf4
  v4:=Tryz.zeroValue4
  t5:=Tryz.underlying5
  a5:=Tryz.isAgg5
  z5:=Tryz.sizeOf5
  v5:=Tryz.zeroValue5
  t9:=Tryz.underlying9
  a9:=Tryz.isAgg9
  z9:=Tryz.sizeOf9
  v9:=Tryz.zeroValue9
  t21:=Tryz.underlying21
  a21:=Tryz.isAgg21
  z21:=Tryz.sizeOf21
  v21:=Tryz.zeroValue21
  t31:=Tryz.underlying72
  a31:=Tryz.isAgg72
  z31:=Tryz.sizeOf72
  v31:=Tryz.zeroValue72
  t46:=Tryz.underlying141
  a46:=Tryz.isAgg141
  z46:=Tryz.sizeOf141
  v46:=Tryz.zeroValue141
  t51:=Tryz.underlying140
  a51:=Tryz.isAgg140
  z51:=Tryz.sizeOf140
  v51:=Tryz.zeroValue140
  t105:=Tryz.underlying137
  a105:=Tryz.isAgg137
  z105:=Tryz.sizeOf137
  v105:=Tryz.zeroValue137
  t119:=Tryz.underlying196
  a119:=Tryz.isAgg196
  z119:=Tryz.sizeOf196
  t138:=Tryz.underlying198
  a138:=Tryz.isAgg198
  z138:=Tryz.sizeOf198
  v138:=Tryz.zeroValue198
  t139:=Tryz.underlying199
  a139:=Tryz.isAgg199
  z139:=Tryz.sizeOf199
  v139:=Tryz.zeroValue199
  t146:=Tryz.underlying229
  a146:=Tryz.isAgg229
  z146:=Tryz.sizeOf229
  v146:=Tryz.zeroValue229
  g1:=by kernel_rfl
  g3:=by kernel_rfl
  g4:=by kernel_rfl }
open Go.RowKit Go.Lib in
theorem Tryz.strings_SplitN (s sep:ByteArray) (n:Nat) (m:Int) (w:World) (hs:s.size<4294967281) (hm:w.cell? ⟨1,0,none⟩=some (.int .i64 m)) (h1:1≤sep.size) (hn:1≤n) (hn63:n≤9223372036854775807) :
    Calls Tryz.prog 26 #[.string s,.string sep,.int .i64 n] w fun e w' =>
      e=.returned (.slice (some ⟨w.heap.size,0,none⟩) (Lib.splitB sep 0 (min n (s.size+1)-1) s).length (min n (s.size+1)))∧w'=w.alloc (.cells (Lib.cellsOf (Lib.splitB sep 0 (min n (s.size+1)-1) s) (min n (s.size+1))) 9):=Any.strings_SplitN Tryz.lays147 (by kernel_rfl) s sep n m w hs hm h1 hn hn63
def Tryz.lays212_ren:Go.Shelf.Ren:=⟨fun | 212=>148 | 263=>184 | 264=>185 | n=>n,fun | 46=>141 | 51=>140 | 146=>229 | 53=>110 | 148=>231 | n=>n,fun | n=>n⟩
theorem Tryz.lays212:Go.Proofs.Lays.n212 Tryz.prog Tryz.lays212_ren:={
  mixed:=by kernel_rfl
  f212:=Tryz.func148.trans (congrArg some (by kernel_rfl))
  f263:=Tryz.func184.trans (congrArg some (by kernel_rfl))
  f264:=Tryz.func185.trans (congrArg some (by kernel_rfl))
  t46:=Tryz.underlying141
  a46:=Tryz.isAgg141
  z46:=Tryz.sizeOf141
  v46:=Tryz.zeroValue141
  t51:=Tryz.underlying140
  a51:=Tryz.isAgg140
  z51:=Tryz.sizeOf140
  v51:=Tryz.zeroValue140
  t53:=Tryz.underlying110
  a53:=Tryz.isAgg110
  z53:=Tryz.sizeOf110
  v53:=Tryz.zeroValue110
  t146:=Tryz.underlying229
  a146:=Tryz.isAgg229
  z146:=Tryz.sizeOf229
  v146:=Tryz.zeroValue229
  t148:=Tryz.underlying231
  a148:=Tryz.isAgg231
  z148:=Tryz.sizeOf231
  v148:=Tryz.zeroValue231 }
open Go.RowKit Go.Lib in
theorem Tryz.bits_Mul (x y:Nat) (hx:x<18446744073709551616) (hy:y<18446744073709551616) (w:World) :
    Calls Tryz.prog 148 #[.int .u64 x,.int .u64 y] w fun e w'=>e=.returned (.tuple #[.int .u64 ((x*y / 18446744073709551616:Nat):Int),.int .u64 ((x*y % 18446744073709551616:Nat):Int)])∧w'=w:=Any.bits_Mul Tryz.lays212 x y hx hy w
def Tryz.lays105_ren:Go.Shelf.Ren:=⟨fun | 105=>114 | 212=>148 | 99=>25 | 165=>149 | 166=>113 | 170=>150 | 169=>115 | 263=>184 | 264=>185 | 206=>53 | 240=>147 | 241=>186 | 276=>183 | 277=>203 | n=>n,fun | 9=>9 | 3=>3 | 4=>4 | 20=>20 | 0=>0 | 46=>141 | 109=>192 | 5=>5 | 72=>160 | 76=>164 | 51=>140 | 146=>229 | 53=>110 | 148=>231 | 70=>157 | 37=>158 | 75=>163 | 127=>195 | 164=>227 | 80=>133 | n=>n,fun | n=>n⟩
theorem Tryz.lays105:Go.Proofs.Lays.n105 Tryz.prog Tryz.lays105_ren:={
  mixed:=by kernel_rfl
  f99:=Tryz.func25.trans (congrArg some (by kernel_rfl))
  f105:=Tryz.func114.trans (congrArg some (by kernel_rfl))
  f165:=Tryz.func149.trans (congrArg some (by kernel_rfl))
  f166:=Tryz.func113.trans (congrArg some (by kernel_rfl))
  f169:=Tryz.func115.trans (congrArg some (by kernel_rfl))
  f170:=Tryz.func150.trans (congrArg some (by kernel_rfl))
  f206:=Tryz.func53.trans (congrArg some (by kernel_rfl))
  f212:=Tryz.func148.trans (congrArg some (by kernel_rfl))
  f240:=Tryz.func147.trans (congrArg some (by kernel_rfl))
  f241:=Tryz.func186.trans (congrArg some (by kernel_rfl))
  f263:=Tryz.func184.trans (congrArg some (by kernel_rfl))
  f264:=Tryz.func185.trans (congrArg some (by kernel_rfl))
  f276:=Tryz.func183.trans (congrArg some (by kernel_rfl))
  f277:=Tryz.func203.trans (congrArg some (by kernel_rfl))
  t0:=Tryz.underlying0
  a0:=Tryz.isAgg0
  z0:=Tryz.sizeOf0
  v0:=Tryz.zeroValue0
  t3:=Tryz.underlying3
  a3:=Tryz.isAgg3
  z3:=Tryz.sizeOf3
  v3:=Tryz.zeroValue3
  t4:=Tryz.underlying4
  a4:=Tryz.isAgg4
  z4:=Tryz.sizeOf4
  v4:=Tryz.zeroValue4
  t5:=Tryz.underlying5
  a5:=Tryz.isAgg5
  z5:=Tryz.sizeOf5
  v5:=Tryz.zeroValue5
  t9:=Tryz.underlying9
  a9:=Tryz.isAgg9
  z9:=Tryz.sizeOf9
  v9:=Tryz.zeroValue9
  t20:=Tryz.underlying20
  a20:=Tryz.isAgg20
  z20:=Tryz.sizeOf20
  v20:=Tryz.zeroValue20
  t37:=Tryz.underlying158
  a37:=Tryz.isAgg158
  z37:=Tryz.sizeOf158
  v37:=Tryz.zeroValue158
  t46:=Tryz.underlying141
  a46:=Tryz.isAgg141
  z46:=Tryz.sizeOf141
  v46:=Tryz.zeroValue141
  t51:=Tryz.underlying140
  a51:=Tryz.isAgg140
  z51:=Tryz.sizeOf140
  v51:=Tryz.zeroValue140
  t53:=Tryz.underlying110
  a53:=Tryz.isAgg110
  z53:=Tryz.sizeOf110
  v53:=Tryz.zeroValue110
  t70:=Tryz.underlying157
  a70:=Tryz.isAgg157
  z70:=Tryz.sizeOf157
  v70:=Tryz.zeroValue157
  t72:=Tryz.underlying160
  a72:=Tryz.isAgg160
  z72:=Tryz.sizeOf160
  v72:=Tryz.zeroValue160
  t75:=Tryz.underlying163
  a75:=Tryz.isAgg163
  z75:=Tryz.sizeOf163
  v75:=Tryz.zeroValue163
  t76:=Tryz.underlying164
  a76:=Tryz.isAgg164
  z76:=Tryz.sizeOf164
  v76:=Tryz.zeroValue164
  t109:=Tryz.underlying192
  a109:=Tryz.isAgg192
  z109:=Tryz.sizeOf192
  v109:=Tryz.zeroValue192
  t127:=Tryz.underlying195
  a127:=Tryz.isAgg195
  z127:=Tryz.sizeOf195
  v127:=Tryz.zeroValue195
  t146:=Tryz.underlying229
  a146:=Tryz.isAgg229
  z146:=Tryz.sizeOf229
  v146:=Tryz.zeroValue229
  t148:=Tryz.underlying231
  a148:=Tryz.isAgg231
  z148:=Tryz.sizeOf231
  v148:=Tryz.zeroValue231
  t164:=Tryz.underlying227
  a164:=Tryz.isAgg227
  z164:=Tryz.sizeOf227
  v164:=Tryz.zeroValue227 }
theorem Tryz.Builder_Extra_105:Builder.Extra Tryz.prog Tryz.lays105_ren:={
  sizeBuilder:=by kernel_rfl
  liesBuilder:=by kernel_rfl
  t5:=Tryz.underlying5
  a5:=Tryz.isAgg5
  z5:=Tryz.sizeOf5
  v5:=Tryz.zeroValue5
  infoByte:=by kernel_rfl
  cellsByte:=by kernel_rfl
  sizeByte:=by kernel_rfl
  neB5:=by decide }
open Go.RowKit Go.Lib in
theorem Tryz.strings_Repeat (s:ByteArray) (c:Nat) (w:World) (hc:c≤9223372036854775807) (hlen:s.size*c≤140737488355328) :
    Calls Tryz.prog 114 #[.string s,.int .i64 c] w fun e w'=>e=.returned (.string ⟨(Lib.repeatL s.data.toList c).toArray⟩)∧Below w.heap.size w w':=Any.strings_Repeat Tryz.lays105 Tryz.Builder_Extra_105 s c w hc hlen
end Go.Proofs
