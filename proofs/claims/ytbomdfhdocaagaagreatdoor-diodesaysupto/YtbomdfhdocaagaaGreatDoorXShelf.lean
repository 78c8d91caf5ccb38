/- The library's contracts at this translation: each one application of a contract of the shelf. -/
import Derived.Shelf.Strings.Builder1
import Derived.Shelf.Strings.Builder2
import Derived.Shelf.Strings.Trim
import Derived.Shelf.Small.Utf8
import Derived.Shelf.Small.Bits
import Derived.Shelf.Small.Strs
import Derived.Shelf.Small.Wraps
import Derived.Shelf.Strings.BuilderF
import Derived.Shelf.Strings.BuilderK
import Derived.Shelf.Utf8.RuneCount
import Derived.Shelf.Strings.Builder2Cap
import Derived.Shelf.Strconv.Itoa0
import Derived.Shelf.Strconv.Itoa1
import Derived.Shelf.LaysM
import Derived.Shelf.Strconv.Itoa2
import Derived.Shelf.Strings.Search1
import Derived.Shelf.Strings.Search2
import Derived.Shelf.Strings.Search3
import Derived.Shelf.Strings.Cut
import Derived.Shelf.Strings.Count
import Derived.Shelf.Strings.Shaped
import Derived.Shelf.Strings.Prefix
import Derived.Shelf.Strings.Split
import Derived.Shelf.Strings.SplitShaped
import Derived.Shelf.Unicode.Decode
import Derived.Shelf.Strings.Runes
import Derived.Shelf.Strings.RuneCount
import Derived.Shelf.Strings.AsciiSet
import Derived.Shelf.Strings.Explode
import Derived.Shelf.Bits.Mul64
import Derived.Shelf.Strings.Repeat
import Derived.Shelf.Unicode.DecodeSlow
import Derived.Shelf.Unicode.DecodeAny
import Derived.Shelf.Unicode.DecodeLast
import Derived.Shelf.Strings.BuilderCap
import Derived.Test.YtbomdfhdocaagaaGreatDoorProg
namespace Go.Proofs
open Go.Shelf
def Tryz.lays169_ren:Go.Shelf.Ren:=⟨fun | 169=>153 | n=>n,fun | 70=>191 | 9=>9 | 0=>0 | 72=>193 | 37=>172 | 127=>227 | 3=>3 | 5=>5 | n=>n,fun | n=>n⟩
theorem Tryz.lays169:Go.Proofs.Lays.n169 Tryz.prog Tryz.lays169_ren:={
  mixed:=by kernel_rfl
  f169:=Tryz.func153.trans (congrArg some (by kernel_rfl))
  t0:=Tryz.underlying0
  a0:=Tryz.isAgg0
  z0:=Tryz.sizeOf0
  v0:=Tryz.zeroValue0
  t3:=Tryz.underlying3
  a3:=Tryz.isAgg3
  z3:=Tryz.sizeOf3
  v3:=Tryz.zeroValue3
  t9:=Tryz.underlying9
  a9:=Tryz.isAgg9
  z9:=Tryz.sizeOf9
  v9:=Tryz.zeroValue9
  t37:=Tryz.underlying172
  a37:=Tryz.isAgg172
  z37:=Tryz.sizeOf172
  v37:=Tryz.zeroValue172
  t70:=Tryz.underlying191
  a70:=Tryz.isAgg191
  z70:=Tryz.sizeOf191
  v70:=Tryz.zeroValue191
  t72:=Tryz.underlying193
  a72:=Tryz.isAgg193
  z72:=Tryz.sizeOf193
  v72:=Tryz.zeroValue193
  t127:=Tryz.underlying227
  a127:=Tryz.isAgg227
  z127:=Tryz.sizeOf227
  v127:=Tryz.zeroValue227 }
theorem Tryz.Builder_Extra_169:Builder.Extra Tryz.prog Tryz.lays169_ren:={
  sizeBuilder:=by kernel_rfl
  liesBuilder:=by kernel_rfl
  t5:=Tryz.underlying5
  a5:=Tryz.isAgg5
  z5:=Tryz.sizeOf5
  v5:=Tryz.zeroValue5
  infoByte:=by kernel_rfl
  cellsByte:=by kernel_rfl
  sizeByte:=by kernel_rfl
  neB5:=by decide }
open Go.RowKit in
theorem Tryz.Builder_String (B b:Nat) (l:List UInt8) (w:World) (h:Lib.IsBuilder 193 5 B b (Lib.byteCells l) w) (h0:l≠[]) :
    Calls Tryz.prog 153 #[.pointer (some ⟨b,0,none⟩)] w fun e w'=>e=.returned (.string ⟨l.toArray⟩)∧Below B w w':=Any.Builder_String Tryz.lays169 Tryz.Builder_Extra_169 B b l w h h0
def Tryz.lays160_ren:Go.Shelf.Ren:=⟨fun | 160=>69 | 232=>106 | 231=>105 | 227=>107 | 234=>109 | 233=>108 | 236=>111 | 235=>110 | 228=>157 | 271=>160 | 151=>159 | 197=>158 | 120=>189 | 152=>188 | 260=>187 | 137=>215 | 119=>216 | 224=>213 | 225=>212 | 217=>211 | 266=>223 | n=>n,fun | 9=>9 | 4=>4 | 3=>3 | 5=>5 | 117=>155 | 116=>154 | 0=>0 | 124=>158 | 21=>21 | 105=>203 | 46=>187 | 119=>251 | 139=>254 | 138=>253 | n=>n,fun | 3=>3 | 4=>4 | n=>n⟩
theorem Tryz.lays160:Go.Proofs.Lays.n160 Tryz.prog Tryz.lays160_ren:={
  mixed:=by kernel_rfl
  f119:=Tryz.func216.trans (congrArg some (by kernel_rfl))
  f120:=Tryz.func189.trans (congrArg some (by kernel_rfl))
  f137:=Tryz.func215.trans (congrArg some (by kernel_rfl))
  f151:=Tryz.func159.trans (congrArg some (by kernel_rfl))
  f152:=Tryz.func188.trans (congrArg some (by kernel_rfl))
  f160:=Tryz.func69.trans (congrArg some (by kernel_rfl))
  f197:=Tryz.func158.trans (congrArg some (by kernel_rfl))
  f217:=Tryz.func211.trans (congrArg some (by kernel_rfl))
  f224:=Tryz.func213.trans (congrArg some (by kernel_rfl))
  f225:=Tryz.func212.trans (congrArg some (by kernel_rfl))
  f227:=Tryz.func107.trans (congrArg some (by kernel_rfl))
  f228:=Tryz.func157.trans (congrArg some (by kernel_rfl))
  f231:=Tryz.func105.trans (congrArg some (by kernel_rfl))
  f232:=Tryz.func106.trans (congrArg some (by kernel_rfl))
  f233:=Tryz.func108.trans (congrArg some (by kernel_rfl))
  f234:=Tryz.func109.trans (congrArg some (by kernel_rfl))
  f235:=Tryz.func110.trans (congrArg some (by kernel_rfl))
  f236:=Tryz.func111.trans (congrArg some (by kernel_rfl))
  f260:=Tryz.func187.trans (congrArg some (by kernel_rfl))
  f266:=Tryz.func223.trans (congrArg some (by kernel_rfl))
  f271:=Tryz.func160.trans (congrArg some (by kernel_rfl))
  t0:=Tryz.underlying0
  a0:=Tryz.isAgg0
  z0:=Tryz.sizeOf0
  v0:=Tryz.zeroValue0
  t3:=Tryz.underlying3
  a3:=Tryz.isAgg3
  z3:=Tryz.sizeOf3
  v3:=Tryz.zeroValue3
  t4:=Tryz.underlying4
  a4:=Tryz.isAgg4
  z4:=Tryz.sizeOf4
  v4:=Tryz.zeroValue4
  t5:=Tryz.underlying5
  a5:=Tryz.isAgg5
  z5:=Tryz.sizeOf5
  v5:=Tryz.zeroValue5
  t9:=Tryz.underlying9
  a9:=Tryz.isAgg9
  z9:=Tryz.sizeOf9
  v9:=Tryz.zeroValue9
  t21:=Tryz.underlying21
  a21:=Tryz.isAgg21
  z21:=Tryz.sizeOf21
  v21:=Tryz.zeroValue21
  t46:=Tryz.underlying187
  a46:=Tryz.isAgg187
  z46:=Tryz.sizeOf187
  v46:=Tryz.zeroValue187
  t105:=Tryz.underlying203
  a105:=Tryz.isAgg203
  z105:=Tryz.sizeOf203
  v105:=Tryz.zeroValue203
  t116:=Tryz.underlying154
  a116:=Tryz.isAgg154
  z116:=Tryz.sizeOf154
  t117:=Tryz.underlying155
  a117:=Tryz.isAgg155
  z117:=Tryz.sizeOf155
  v117:=Tryz.zeroValue155
  t119:=Tryz.underlying251
  a119:=Tryz.isAgg251
  z119:=Tryz.sizeOf251
  t124:=Tryz.underlying158
  a124:=Tryz.isAgg158
  z124:=Tryz.sizeOf158
  v124:=Tryz.zeroValue158
  t138:=Tryz.underlying253
  a138:=Tryz.isAgg253
  z138:=Tryz.sizeOf253
  v138:=Tryz.zeroValue253
  t139:=Tryz.underlying254
  a139:=Tryz.isAgg254
  z139:=Tryz.sizeOf254
  v139:=Tryz.zeroValue254
  g3:=by kernel_rfl
  g4:=by kernel_rfl }
def Tryz.lays128_ren:Go.Shelf.Ren:=⟨fun | 128=>176 | n=>n,fun | 51=>174 | 3=>3 | 4=>4 | 46=>187 | 5=>5 | 9=>9 | n=>n,fun | n=>n⟩
theorem Tryz.lays128:Go.Proofs.Lays.n128 Tryz.prog Tryz.lays128_ren:={
  mixed:=by kernel_rfl
  f128:=Tryz.func176.trans (congrArg some (by kernel_rfl))
  t3:=Tryz.underlying3
  a3:=Tryz.isAgg3
  z3:=Tryz.sizeOf3
  v3:=Tryz.zeroValue3
  t4:=Tryz.underlying4
  a4:=Tryz.isAgg4
  z4:=Tryz.sizeOf4
  v4:=Tryz.zeroValue4
  t5:=Tryz.underlying5
  a5:=Tryz.isAgg5
  z5:=Tryz.sizeOf5
  v5:=Tryz.zeroValue5
  t9:=Tryz.underlying9
  a9:=Tryz.isAgg9
  z9:=Tryz.sizeOf9
  v9:=Tryz.zeroValue9
  t46:=Tryz.underlying187
  a46:=Tryz.isAgg187
  z46:=Tryz.sizeOf187
  v46:=Tryz.zeroValue187
  t51:=Tryz.underlying174
  a51:=Tryz.isAgg174
  z51:=Tryz.sizeOf174
  v51:=Tryz.zeroValue174 }
theorem Tryz.bits_Len32 (x:Int) (w:World) (h0:0≤x) (h1:x≤4294967295) :
    Calls Tryz.prog 176 #[.int .u32 x] w fun e w'=>e=.returned (.int .i64 (Lib.bitLen x.toNat))∧w'=w:=Any.bits_Len32 Tryz.lays128 x w h0 h1
def Tryz.lays133_ren:Go.Shelf.Ren:=⟨fun | 133=>195 | 128=>176 | n=>n,fun | 51=>174 | 3=>3 | 4=>4 | 46=>187 | 5=>5 | 9=>9 | n=>n,fun | n=>n⟩
theorem Tryz.lays133:Go.Proofs.Lays.n133 Tryz.prog Tryz.lays133_ren:={
  mixed:=by kernel_rfl
  f128:=Tryz.func176.trans (congrArg some (by kernel_rfl))
  f133:=Tryz.func195.trans (congrArg some (by kernel_rfl))
  t3:=Tryz.underlying3
  a3:=Tryz.isAgg3
  z3:=Tryz.sizeOf3
  v3:=Tryz.zeroValue3
  t4:=Tryz.underlying4
  a4:=Tryz.isAgg4
  z4:=Tryz.sizeOf4
  v4:=Tryz.zeroValue4
  t5:=Tryz.underlying5
  a5:=Tryz.isAgg5
  z5:=Tryz.sizeOf5
  v5:=Tryz.zeroValue5
  t9:=Tryz.underlying9
  a9:=Tryz.isAgg9
  z9:=Tryz.sizeOf9
  v9:=Tryz.zeroValue9
  t46:=Tryz.underlying187
  a46:=Tryz.isAgg187
  z46:=Tryz.sizeOf187
  v46:=Tryz.zeroValue187
  t51:=Tryz.underlying174
  a51:=Tryz.isAgg174
  z51:=Tryz.sizeOf174
  v51:=Tryz.zeroValue174 }
theorem Tryz.bits_LeadingZeros32 (x:Int) (w:World) (h0:0≤x) (h1:x≤4294967295) :
    Calls Tryz.prog 195 #[.int .u32 x] w fun e w'=>e=.returned (.int .i64 (32-(Lib.bitLen x.toNat:Int)))∧w'=w:=Any.bits_LeadingZeros32 Tryz.lays133 x w h0 h1
def Tryz.lays103_ren:Go.Shelf.Ren:=⟨fun | 103=>120 | 210=>164 | 206=>103 | n=>n,fun | 9=>9 | 4=>4 | 24=>164 | 3=>3 | n=>n,fun | n=>n⟩
theorem Tryz.lays103:Go.Proofs.Lays.n103 Tryz.prog Tryz.lays103_ren:={
  mixed:=by kernel_rfl
  f103:=Tryz.func120.trans (congrArg some (by kernel_rfl))
  f206:=Tryz.func103.trans (congrArg some (by kernel_rfl))
  f210:=Tryz.func164.trans (congrArg some (by kernel_rfl))
  t3:=Tryz.underlying3
  a3:=Tryz.isAgg3
  z3:=Tryz.sizeOf3
  v3:=Tryz.zeroValue3
  t4:=Tryz.underlying4
  a4:=Tryz.isAgg4
  z4:=Tryz.sizeOf4
  v4:=Tryz.zeroValue4
  t9:=Tryz.underlying9
  a9:=Tryz.isAgg9
  z9:=Tryz.sizeOf9
  v9:=Tryz.zeroValue9
  t24:=Tryz.underlying164
  a24:=Tryz.isAgg164
  z24:=Tryz.sizeOf164
  v24:=Tryz.zeroValue164 }
open Go.RowKit in
theorem Tryz.strings_CutPrefix (s p:ByteArray) (w:World) :
    Calls Tryz.prog 120 #[.string s,.string p] w fun e w'=>e=.returned (.tuple #[.string ⟨(Lib.trimPrefix s.data.toList p.data.toList).toArray⟩,.bool (Lib.hasPrefix s.data.toList p.data.toList)])∧w'=w:=Any.strings_CutPrefix Tryz.lays103 s p w
def Tryz.lays283_ren:Go.Shelf.Ren:=⟨fun | 283=>203 | n=>n,fun | 3=>3 | 9=>9 | 4=>4 | n=>n,fun | n=>n⟩
theorem Tryz.lays283:Go.Proofs.Lays.n283 Tryz.prog Tryz.lays283_ren:={
  mixed:=by kernel_rfl
  f283:=Tryz.func203.trans (congrArg some (by kernel_rfl))
  t3:=Tryz.underlying3
  a3:=Tryz.isAgg3
  z3:=Tryz.sizeOf3
  v3:=Tryz.zeroValue3
  t4:=Tryz.underlying4
  a4:=Tryz.isAgg4
  z4:=Tryz.sizeOf4
  v4:=Tryz.zeroValue4
  t9:=Tryz.underlying9
  a9:=Tryz.isAgg9
  z9:=Tryz.sizeOf9
  v9:=Tryz.zeroValue9 }
open Go.Lib in
theorem Tryz.internal_strconv_small (i:Nat) (h:i<100) (w:World) :
    Calls Tryz.prog 203 #[.int .i64 i] w fun e w'=>e=.returned (.string ⟨(Lib.decDigits i).toArray⟩)∧w'=w:=Any.internal_strconv_small Tryz.lays283 i h w
def Tryz.laysM284_ren:Go.Shelf.Ren:=⟨fun | 284=>204 | 129=>218 | 317=>217 | 318=>219 | n=>n,fun | 53=>161 | 3=>3 | 212=>257 | 0=>0 | 4=>4 | 46=>187 | 5=>5 | 9=>9 | n=>n,fun | 17=>5 | n=>n⟩
theorem Tryz.laysM284:Go.Proofs.LaysM.n284 Tryz.prog Tryz.laysM284_ren:={
  mixed:=by kernel_rfl
  f129:=Tryz.func218.trans (congrArg some (by kernel_rfl))
  f284:=Tryz.func204.trans (congrArg some (by kernel_rfl))
  f317:=Tryz.func217.trans (congrArg some (by kernel_rfl))
  f318:=Tryz.func219.trans (congrArg some (by kernel_rfl))
  t0:=Tryz.underlying0
  a0:=Tryz.isAgg0
  z0:=Tryz.sizeOf0
  v0:=Tryz.zeroValue0
  t3:=Tryz.underlying3
  a3:=Tryz.isAgg3
  z3:=Tryz.sizeOf3
  v3:=Tryz.zeroValue3
  t4:=Tryz.underlying4
  a4:=Tryz.isAgg4
  z4:=Tryz.sizeOf4
  v4:=Tryz.zeroValue4
  t5:=Tryz.underlying5
  a5:=Tryz.isAgg5
  z5:=Tryz.sizeOf5
  v5:=Tryz.zeroValue5
  t9:=Tryz.underlying9
  a9:=Tryz.isAgg9
  z9:=Tryz.sizeOf9
  v9:=Tryz.zeroValue9
  t46:=Tryz.underlying187
  a46:=Tryz.isAgg187
  z46:=Tryz.sizeOf187
  v46:=Tryz.zeroValue187
  t53:=Tryz.underlying161
  a53:=Tryz.isAgg161
  z53:=Tryz.sizeOf161
  v53:=Tryz.zeroValue161
  t212:=Tryz.underlying257
  a212:=Tryz.isAgg257
  z212:=Tryz.sizeOf257
  v212:=Tryz.zeroValue257
  g17:=by kernel_rfl
  i0:=by kernel_rfl
  i3:=by kernel_rfl
  i4:=by kernel_rfl
  i5:=by kernel_rfl
  i9:=by kernel_rfl
  i46:=by kernel_rfl
  i53:=by kernel_rfl
  i212:=by kernel_rfl
  m17:=by kernel_rfl }
open Go.Lib in
theorem Tryz.internal_strconv_numDigits (u:Nat) (h1:1≤u) (h2:u<18446744073709551616) (w:World) (htab:Lib.TabIs Tryz.prog w "internal/strconv.uint64pow10" .u64 Lib.pow10Tab) :
    Calls Tryz.prog 204 #[.int .u64 u] w fun e w'=>e=.returned (.int .i64 (Lib.nDigits u))∧w'=w:=Any.internal_strconv_numDigits Tryz.laysM284 u h1 h2 w htab
def Tryz.lays285_ren:Go.Shelf.Ren:=⟨fun | 285=>205 | n=>n,fun | 37=>172 | 53=>161 | 3=>3 | 4=>4 | 51=>174 | 9=>9 | 5=>5 | 0=>0 | n=>n,fun | n=>n⟩
theorem Tryz.lays285:Go.Proofs.Lays.n285 Tryz.prog Tryz.lays285_ren:={
  mixed:=by kernel_rfl
  f285:=Tryz.func205.trans (congrArg some (by kernel_rfl))
  t0:=Tryz.underlying0
  a0:=Tryz.isAgg0
  z0:=Tryz.sizeOf0
  v0:=Tryz.zeroValue0
  t3:=Tryz.underlying3
  a3:=Tryz.isAgg3
  z3:=Tryz.sizeOf3
  v3:=Tryz.zeroValue3
  t4:=Tryz.underlying4
  a4:=Tryz.isAgg4
  z4:=Tryz.sizeOf4
  v4:=Tryz.zeroValue4
  t5:=Tryz.underlying5
  a5:=Tryz.isAgg5
  z5:=Tryz.sizeOf5
  v5:=Tryz.zeroValue5
  t9:=Tryz.underlying9
  a9:=Tryz.isAgg9
  z9:=Tryz.sizeOf9
  v9:=Tryz.zeroValue9
  t37:=Tryz.underlying172
  a37:=Tryz.isAgg172
  z37:=Tryz.sizeOf172
  v37:=Tryz.zeroValue172
  t51:=Tryz.underlying174
  a51:=Tryz.isAgg174
  z51:=Tryz.sizeOf174
  v51:=Tryz.zeroValue174
  t53:=Tryz.underlying161
  a53:=Tryz.isAgg161
  z53:=Tryz.sizeOf161
  v53:=Tryz.zeroValue161 }
open Go.RowKit Go.Sort Go.Lib in
theorem Tryz.internal_strconv_formatBase10 (blk off cap:Nat) (u:Nat) (d:Array UInt8) (w:World) (hH:Holds (fun (b:UInt8)=>Value.int .u8 (b.toNat:Int)) w blk off d) (hu:u<10^d.size) (hu64:u<18446744073709551616) (hsz:d.size<4611686018427387904) :
    Calls Tryz.prog 205 #[.slice (some ⟨blk,off,none⟩) d.size cap,.int .u64 u] w fun e w' =>
      e=.returned (.tuple #[])∧∃ (n v':Nat) (dk:Array UInt8),w'=(putRow (fun (b:UInt8)=>Value.int .u8 (b.toNat:Int)) w blk off dk).drewN n∧FmtInv d.size u 0 v' dk:=Any.internal_strconv_formatBase10 Tryz.lays285 blk off cap u d w hH hu hu64 hsz
def Tryz.lays145_ren:Go.Shelf.Ren:=⟨fun | 145=>121 | 220=>165 | 219=>186 | 217=>211 | 225=>212 | 224=>213 | 267=>214 | 266=>223 | 314=>224 | n=>n,fun | 9=>9 | 4=>4 | 59=>166 | 3=>3 | 5=>5 | 46=>187 | 146=>247 | 51=>174 | n=>n,fun | 1=>2 | n=>n⟩
theorem Tryz.lays145:Go.Proofs.Lays.n145 Tryz.prog Tryz.lays145_ren:={
  mixed:=by kernel_rfl
  f145:=Tryz.func121.trans (congrArg some (by kernel_rfl))
  f217:=Tryz.func211.trans (congrArg some (by kernel_rfl))
  f219:=Tryz.func186.trans (congrArg some (by kernel_rfl))
  f220:=Tryz.func165.trans (congrArg some (by kernel_rfl))
  f224:=Tryz.func213.trans (congrArg some (by kernel_rfl))
  f225:=Tryz.func212.trans (congrArg some (by kernel_rfl))
  f266:=Tryz.func223.trans (congrArg some (by kernel_rfl))
  f267:=Tryz.func214.trans (congrArg some (by kernel_rfl))
  f314:=Tryz.func224.trans (congrArg some (by kernel_rfl))
  t3:=Tryz.underlying3
  a3:=Tryz.isAgg3
  z3:=Tryz.sizeOf3
  v3:=Tryz.zeroValue3
  t4:=Tryz.underlying4
  a4:=Tryz.isAgg4
  z4:=Tryz.sizeOf4
  v4:=Tryz.zeroValue4
  t5:=Tryz.underlying5
  a5:=Tryz.isAgg5
  z5:=Tryz.sizeOf5
  v5:=Tryz.zeroValue5
  t9:=Tryz.underlying9
  a9:=Tryz.isAgg9
  z9:=Tryz.sizeOf9
  v9:=Tryz.zeroValue9
  t46:=Tryz.underlying187
  a46:=Tryz.isAgg187
  z46:=Tryz.sizeOf187
  v46:=Tryz.zeroValue187
  t51:=Tryz.underlying174
  a51:=Tryz.isAgg174
  z51:=Tryz.sizeOf174
  v51:=Tryz.zeroValue174
  t59:=Tryz.underlying166
  a59:=Tryz.isAgg166
  z59:=Tryz.sizeOf166
  v59:=Tryz.zeroValue166
  t146:=Tryz.underlying247
  a146:=Tryz.isAgg247
  z146:=Tryz.sizeOf247
  v146:=Tryz.zeroValue247
  g1:=by kernel_rfl }
open Go.RowKit Go.Lib in
theorem Tryz.strings_Cut (s sep:ByteArray) (m:Int) (w:World) (hs:s.size<4294967281) (hm:w.cell? ⟨2,0,none⟩=some (.int .i64 m)) :
    Calls Tryz.prog 121 #[.string s,.string sep] w fun e w'=>e=.returned (.tuple #[.string ⟨(Lib.cut s.data.toList sep.data.toList).1.toArray⟩,.string ⟨(Lib.cut s.data.toList sep.data.toList).2.1.toArray⟩,.bool (Lib.cut s.data.toList sep.data.toList).2.2])∧∃ n,w'=w.drewN n:=Any.strings_Cut Tryz.lays145 s sep m w hs hm
def Tryz.laysM143_ren:Go.Shelf.Ren:=⟨fun | 143=>156 | 219=>186 | 217=>211 | 225=>212 | 224=>213 | 267=>214 | 266=>223 | 314=>224 | n=>n,fun | 9=>9 | 3=>3 | 4=>4 | 5=>5 | 46=>187 | 146=>247 | 51=>174 | n=>n,fun | 1=>2 | n=>n⟩
theorem Tryz.laysM143:Go.Proofs.LaysM.n143 Tryz.prog Tryz.laysM143_ren:={
  mixed:=by kernel_rfl
  f143:=Tryz.func156.trans (congrArg some (by kernel_rfl))
  f217:=Tryz.func211.trans (congrArg some (by kernel_rfl))
  f219:=Tryz.func186.trans (congrArg some (by kernel_rfl))
  f224:=Tryz.func213.trans (congrArg some (by kernel_rfl))
  f225:=Tryz.func212.trans (congrArg some (by kernel_rfl))
  f266:=Tryz.func223.trans (congrArg some (by kernel_rfl))
  f267:=Tryz.func214.trans (congrArg some (by kernel_rfl))
  f314:=Tryz.func224.trans (congrArg some (by kernel_rfl))
  t3:=Tryz.underlying3
  a3:=Tryz.isAgg3
  z3:=Tryz.sizeOf3
  v3:=Tryz.zeroValue3
  t4:=Tryz.underlying4
  a4:=Tryz.isAgg4
  z4:=Tryz.sizeOf4
  v4:=Tryz.zeroValue4
  t5:=Tryz.underlying5
  a5:=Tryz.isAgg5
  z5:=Tryz.sizeOf5
  v5:=Tryz.zeroValue5
  t9:=Tryz.underlying9
  a9:=Tryz.isAgg9
  z9:=Tryz.sizeOf9
  v9:=Tryz.zeroValue9
  t46:=Tryz.underlying187
  a46:=Tryz.isAgg187
  z46:=Tryz.sizeOf187
  v46:=Tryz.zeroValue187
  t51:=Tryz.underlying174
  a51:=Tryz.isAgg174
  z51:=Tryz.sizeOf174
  v51:=Tryz.zeroValue174
  t146:=Tryz.underlying247
  a146:=Tryz.isAgg247
  z146:=Tryz.sizeOf247
  v146:=Tryz.zeroValue247
  g1:=by kernel_rfl
  i3:=by kernel_rfl
  i4:=by kernel_rfl
  i5:=by kernel_rfl
  i9:=by kernel_rfl
  i46:=by kernel_rfl
  i51:=by kernel_rfl
  i146:=by kernel_rfl
  m1:=by kernel_rfl
  s1_3:=fun w h=>Go.Proofs.cell_of_shapedOpen_int (zero:=#[.int .i64 0]) (t:=3) h (of_decide_eq_true (by kernel_rfl)) (by kernel_rfl) rfl (by kernel_rfl) (by kernel_rfl) Tryz.underlying3 }
def Tryz.lays99_ren:Go.Shelf.Ren:=⟨fun | 99=>66 | 206=>103 | n=>n,fun | 9=>9 | 4=>4 | 3=>3 | n=>n,fun | n=>n⟩
theorem Tryz.lays99:Go.Proofs.Lays.n99 Tryz.prog Tryz.lays99_ren:={
  mixed:=by kernel_rfl
  f99:=Tryz.func66.trans (congrArg some (by kernel_rfl))
  f206:=Tryz.func103.trans (congrArg some (by kernel_rfl))
  t3:=Tryz.underlying3
  a3:=Tryz.isAgg3
  z3:=Tryz.sizeOf3
  v3:=Tryz.zeroValue3
  t4:=Tryz.underlying4
  a4:=Tryz.isAgg4
  z4:=Tryz.sizeOf4
  v4:=Tryz.zeroValue4
  t9:=Tryz.underlying9
  a9:=Tryz.isAgg9
  z9:=Tryz.sizeOf9
  v9:=Tryz.zeroValue9 }
open Go.RowKit Go.Lib in
theorem Tryz.strings_HasPrefix (s p:ByteArray) (w:World) :
    Calls Tryz.prog 66 #[.string s,.string p] w fun e w'=>e=.returned (.bool (Lib.hasPrefix s.data.toList p.data.toList))∧w'=w:=Any.strings_HasPrefix Tryz.lays99 s p w
def Tryz.lays147_ren:Go.Shelf.Ren:=⟨fun | 147=>67 | 221=>104 | 268=>154 | 138=>155 | 143=>156 | 195=>184 | 197=>158 | 218=>185 | 219=>186 | 260=>187 | 217=>211 | 225=>212 | 224=>213 | 267=>214 | 266=>223 | 314=>224 | n=>n,fun | 9=>9 | 3=>3 | 31=>125 | 4=>4 | 0=>0 | 105=>203 | 21=>21 | 5=>5 | 46=>187 | 119=>251 | 139=>254 | 138=>253 | 146=>247 | 51=>174 | n=>n,fun | 1=>2 | 3=>3 | 4=>4 | n=>n⟩
theorem Tryz.lays147:Go.Proofs.Lays.n147 Tryz.prog Tryz.lays147_ren:={
  mixed:=by kernel_rfl
  f138:=Tryz.func155.trans (congrArg some (by kernel_rfl))
  f143:=Tryz.func156.trans (congrArg some (by kernel_rfl))
  f147:=Tryz.func67.trans (congrArg some (by kernel_rfl))
  f195:=Tryz.func184.trans (congrArg some (by kernel_rfl))
  f197:=Tryz.func158.trans (congrArg some (by kernel_rfl))
  f217:=Tryz.func211.trans (congrArg some (by kernel_rfl))
  f218:=Tryz.func185.trans (congrArg some (by kernel_rfl))
  f219:=Tryz.func186.trans (congrArg some (by kernel_rfl))
  f221:=Tryz.func104.trans (congrArg some (by kernel_rfl))
  f224:=Tryz.func213.trans (congrArg some (by kernel_rfl))
  f225:=Tryz.func212.trans (congrArg some (by kernel_rfl))
  f260:=Tryz.func187.trans (congrArg some (by kernel_rfl))
  f266:=Tryz.func223.trans (congrArg some (by kernel_rfl))
  f267:=Tryz.func214.trans (congrArg some (by kernel_rfl))
  f268:=Tryz.func154.trans (congrArg some (by kernel_rfl))
  f314:=Tryz.func224.trans (congrArg some (by kernel_rfl))
  t0:=Tryz.underlying0
  a0:=Tryz.isAgg0
  z0:=Tryz.sizeOf0
  v0:=Tryz.zeroValue0
  t3:=Tryz.underlying3
  a3:=Tryz.isAgg3
  z3:=Tryz.sizeOf3
  v3:=Tryz.zeroValue3
  t4:=Tryz.underlying4
  a4:=Tryz.isAgg4
  z4:=Tryz.sizeOf4
  v4:=Tryz.zeroValue4
  t5:=Tryz.underlying5
  a5:=Tryz.isAgg5
  z5:=Tryz.sizeOf5
  v5:=Tryz.zeroValue5
  t9:=Tryz.underlying9
  a9:=Tryz.isAgg9
  z9:=Tryz.sizeOf9
  v9:=Tryz.zeroValue9
  t21:=Tryz.underlying21
  a21:=Tryz.isAgg21
  z21:=Tryz.sizeOf21
  v21:=Tryz.zeroValue21
  t31:=Tryz.underlying125
  a31:=Tryz.isAgg125
  z31:=Tryz.sizeOf125
  v31:=Tryz.zeroValue125
  t46:=Tryz.underlying187
  a46:=Tryz.isAgg187
  z46:=Tryz.sizeOf187
  v46:=Tryz.zeroValue187
  t51:=Tryz.underlying174
  a51:=Tryz.isAgg174
  z51:=Tryz.sizeOf174
  v51:=Tryz.zeroValue174
  t105:=Tryz.underlying203
  a105:=Tryz.isAgg203
  z105:=Tryz.sizeOf203
  v105:=Tryz.zeroValue203
  t119:=Tryz.underlying251
  a119:=Tryz.isAgg251
  z119:=Tryz.sizeOf251
  t138:=Tryz.underlying253
  a138:=Tryz.isAgg253
  z138:=Tryz.sizeOf253
  v138:=Tryz.zeroValue253
  t139:=Tryz.underlying254
  a139:=Tryz.isAgg254
  z139:=Tryz.sizeOf254
  v139:=Tryz.zeroValue254
  t146:=Tryz.underlying247
  a146:=Tryz.isAgg247
  z146:=Tryz.sizeOf247
  v146:=Tryz.zeroValue247
  g1:=by kernel_rfl
  g3:=by kernel_rfl
  g4:=by kernel_rfl }
open Go.RowKit Go.Lib in
theorem Tryz.strings_SplitN (s sep:ByteArray) (n:Nat) (m:Int) (w:World) (hs:s.size<4294967281) (hm:w.cell? ⟨2,0,none⟩=some (.int .i64 m)) (h1:1≤sep.size) (hn:1≤n) (hn63:n≤9223372036854775807) :
    Calls Tryz.prog 67 #[.string s,.string sep,.int .i64 n] w fun e w' =>
      e=.returned (.slice (some ⟨w.heap.size,0,none⟩) (Lib.splitB sep 0 (min n (s.size+1)-1) s).length (min n (s.size+1)))∧w'=w.alloc (.cells (Lib.cellsOf (Lib.splitB sep 0 (min n (s.size+1)-1) s) (min n (s.size+1))) 9):=Any.strings_SplitN Tryz.lays147 (by kernel_rfl) s sep n m w hs hm h1 hn hn63
def Tryz.lays212_ren:Go.Shelf.Ren:=⟨fun | 212=>181 | 263=>208 | 264=>209 | n=>n,fun | 46=>187 | 51=>174 | 146=>247 | 53=>161 | 148=>249 | n=>n,fun | n=>n⟩
theorem Tryz.lays212:Go.Proofs.Lays.n212 Tryz.prog Tryz.lays212_ren:={
  mixed:=by kernel_rfl
  f212:=Tryz.func181.trans (congrArg some (by kernel_rfl))
  f263:=Tryz.func208.trans (congrArg some (by kernel_rfl))
  f264:=Tryz.func209.trans (congrArg some (by kernel_rfl))
  t46:=Tryz.underlying187
  a46:=Tryz.isAgg187
  z46:=Tryz.sizeOf187
  v46:=Tryz.zeroValue187
  t51:=Tryz.underlying174
  a51:=Tryz.isAgg174
  z51:=Tryz.sizeOf174
  v51:=Tryz.zeroValue174
  t53:=Tryz.underlying161
  a53:=Tryz.isAgg161
  z53:=Tryz.sizeOf161
  v53:=Tryz.zeroValue161
  t146:=Tryz.underlying247
  a146:=Tryz.isAgg247
  z146:=Tryz.sizeOf247
  v146:=Tryz.zeroValue247
  t148:=Tryz.underlying249
  a148:=Tryz.isAgg249
  z148:=Tryz.sizeOf249
  v148:=Tryz.zeroValue249 }
open Go.RowKit Go.Lib in
theorem Tryz.bits_Mul (x y:Nat) (hx:x<18446744073709551616) (hy:y<18446744073709551616) (w:World) :
    Calls Tryz.prog 181 #[.int .u64 x,.int .u64 y] w fun e w'=>e=.returned (.tuple #[.int .u64 ((x*y / 18446744073709551616:Nat):Int),.int .u64 ((x*y % 18446744073709551616:Nat):Int)])∧w'=w:=Any.bits_Mul Tryz.lays212 x y hx hy w
def Tryz.lays105_ren:Go.Shelf.Ren:=⟨fun | 105=>152 | 212=>181 | 99=>66 | 165=>182 | 166=>151 | 170=>183 | 169=>153 | 263=>208 | 264=>209 | 206=>103 | 240=>180 | 241=>210 | 276=>207 | 277=>222 | n=>n,fun | 9=>9 | 3=>3 | 4=>4 | 20=>20 | 0=>0 | 46=>187 | 109=>224 | 5=>5 | 72=>193 | 76=>197 | 51=>174 | 146=>247 | 53=>161 | 148=>249 | 70=>191 | 37=>172 | 75=>196 | 127=>227 | 164=>245 | 80=>102 | n=>n,fun | n=>n⟩
theorem Tryz.lays105:Go.Proofs.Lays.n105 Tryz.prog Tryz.lays105_ren:={
  mixed:=by kernel_rfl
  f99:=Tryz.func66.trans (congrArg some (by kernel_rfl))
  f105:=Tryz.func152.trans (congrArg some (by kernel_rfl))
  f165:=Tryz.func182.trans (congrArg some (by kernel_rfl))
  f166:=Tryz.func151.trans (congrArg some (by kernel_rfl))
  f169:=Tryz.func153.trans (congrArg some (by kernel_rfl))
  f170:=Tryz.func183.trans (congrArg some (by kernel_rfl))
  f206:=Tryz.func103.trans (congrArg some (by kernel_rfl))
  f212:=Tryz.func181.trans (congrArg some (by kernel_rfl))
  f240:=Tryz.func180.trans (congrArg some (by kernel_rfl))
  f241:=Tryz.func210.trans (congrArg some (by kernel_rfl))
  f263:=Tryz.func208.trans (congrArg some (by kernel_rfl))
  f264:=Tryz.func209.trans (congrArg some (by kernel_rfl))
  f276:=Tryz.func207.trans (congrArg some (by kernel_rfl))
  f277:=Tryz.func222.trans (congrArg some (by kernel_rfl))
  t0:=Tryz.underlying0
  a0:=Tryz.isAgg0
  z0:=Tryz.sizeOf0
  v0:=Tryz.zeroValue0
  t3:=Tryz.underlying3
  a3:=Tryz.isAgg3
  z3:=Tryz.sizeOf3
  v3:=Tryz.zeroValue3
  t4:=Tryz.underlying4
  a4:=Tryz.isAgg4
  z4:=Tryz.sizeOf4
  v4:=Tryz.zeroValue4
  t5:=Tryz.underlying5
  a5:=Tryz.isAgg5
  z5:=Tryz.sizeOf5
  v5:=Tryz.zeroValue5
  t9:=Tryz.underlying9
  a9:=Tryz.isAgg9
  z9:=Tryz.sizeOf9
  v9:=Tryz.zeroValue9
  t20:=Tryz.underlying20
  a20:=Tryz.isAgg20
  z20:=Tryz.sizeOf20
  v20:=Tryz.zeroValue20
  t37:=Tryz.underlying172
  a37:=Tryz.isAgg172
  z37:=Tryz.sizeOf172
  v37:=Tryz.zeroValue172
  t46:=Tryz.underlying187
  a46:=Tryz.isAgg187
  z46:=Tryz.sizeOf187
  v46:=Tryz.zeroValue187
  t51:=Tryz.underlying174
  a51:=Tryz.isAgg174
  z51:=Tryz.sizeOf174
  v51:=Tryz.zeroValue174
  t53:=Tryz.underlying161
  a53:=Tryz.isAgg161
  z53:=Tryz.sizeOf161
  v53:=Tryz.zeroValue161
  t70:=Tryz.underlying191
  a70:=Tryz.isAgg191
  z70:=Tryz.sizeOf191
  v70:=Tryz.zeroValue191
  t72:=Tryz.underlying193
  a72:=Tryz.isAgg193
  z72:=Tryz.sizeOf193
  v72:=Tryz.zeroValue193
  t75:=Tryz.underlying196
  a75:=Tryz.isAgg196
  z75:=Tryz.sizeOf196
  v75:=Tryz.zeroValue196
  t76:=Tryz.underlying197
  a76:=Tryz.isAgg197
  z76:=Tryz.sizeOf197
  v76:=Tryz.zeroValue197
  t109:=Tryz.underlying224
  a109:=Tryz.isAgg224
  z109:=Tryz.sizeOf224
  v109:=Tryz.zeroValue224
  t127:=Tryz.underlying227
  a127:=Tryz.isAgg227
  z127:=Tryz.sizeOf227
  v127:=Tryz.zeroValue227
  t146:=Tryz.underlying247
  a146:=Tryz.isAgg247
  z146:=Tryz.sizeOf247
  v146:=Tryz.zeroValue247
  t148:=Tryz.underlying249
  a148:=Tryz.isAgg249
  z148:=Tryz.sizeOf249
  v148:=Tryz.zeroValue249
  t164:=Tryz.underlying245
  a164:=Tryz.isAgg245
  z164:=Tryz.sizeOf245
  v164:=Tryz.zeroValue245 }
theorem Tryz.Builder_Extra_105:Builder.Extra Tryz.prog Tryz.lays105_ren:={
  sizeBuilder:=by kernel_rfl
  liesBuilder:=by kernel_rfl
  t5:=Tryz.underlying5
  a5:=Tryz.isAgg5
  z5:=Tryz.sizeOf5
  v5:=Tryz.zeroValue5
  infoByte:=by kernel_rfl
  cellsByte:=by kernel_rfl
  sizeByte:=by kernel_rfl
  neB5:=by decide }
open Go.RowKit Go.Lib in
theorem Tryz.strings_Repeat (s:ByteArray) (c:Nat) (w:World) (hc:c≤9223372036854775807) (hlen:s.size*c≤140737488355328) :
    Calls Tryz.prog 152 #[.string s,.int .i64 c] w fun e w'=>e=.returned (.string ⟨(Lib.repeatL s.data.toList c).toArray⟩)∧Below w.heap.size w w':=Any.strings_Repeat Tryz.lays105 Tryz.Builder_Extra_105 s c w hc hlen
end Go.Proofs
