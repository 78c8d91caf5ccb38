/- The library's contracts at this translation: each one application of a contract of the shelf. -/
import Derived.Shelf.Strings.Builder1
import Derived.Shelf.Strings.Builder2
import Derived.Shelf.Strings.Trim
import Derived.Shelf.Small.Utf8
import Derived.Shelf.Small.Bits
import Derived.Shelf.Small.Strs
import Derived.Shelf.Small.Wraps
import Derived.Shelf.Strings.BuilderF
import Derived.Shelf.Strings.BuilderK
import Derived.Shelf.Utf8.RuneCount
import Derived.Shelf.Strings.Builder2Cap
import Derived.Shelf.Strconv.Itoa0
import Derived.Shelf.Strconv.Itoa1
import Derived.Shelf.LaysM
import Derived.Shelf.Strconv.Itoa2
import Derived.Shelf.Strings.Search1
import Derived.Shelf.Strings.Search2
import Derived.Shelf.Strings.Search3
import Derived.Shelf.Strings.Cut
import Derived.Shelf.Strings.Count
import Derived.Shelf.Strings.Shaped
import Derived.Shelf.Strings.Prefix
import Derived.Shelf.Strings.Split
import Derived.Shelf.Strings.SplitShaped
import Derived.Shelf.Unicode.Decode
import Derived.Shelf.Strings.Runes
import Derived.Shelf.Strings.RuneCount
import Derived.Shelf.Strings.AsciiSet
import Derived.Shelf.Strings.Explode
import Derived.Shelf.Bits.Mul64
import Derived.Shelf.Strings.Repeat
import Derived.Shelf.Unicode.DecodeSlow
import Derived.Shelf.Unicode.DecodeAny
import Derived.Shelf.Unicode.DecodeLast
import Derived.Shelf.Strings.BuilderCap
import Derived.Test.YtfjnoikjhdpghaaGreatDoorProg
namespace Go.Proofs
open Go.Shelf
def Tryz.lays169_ren:Go.Shelf.Ren:=⟨fun | 169=>112 | n=>n,fun | 70=>156 | 9=>9 | 0=>0 | 72=>159 | 37=>157 | 127=>195 | 3=>3 | 5=>5 | n=>n,fun | n=>n⟩
theorem Tryz.lays169:Go.Proofs.Lays.n169 Tryz.prog Tryz.lays169_ren:={
  mixed:=by kernel_rfl
  f169:=Tryz.func112.trans (congrArg some (by kernel_rfl))
  t0:=Tryz.underlying0
  a0:=Tryz.isAgg0
  z0:=Tryz.sizeOf0
  v0:=Tryz.zeroValue0
  t3:=Tryz.underlying3
  a3:=Tryz.isAgg3
  z3:=Tryz.sizeOf3
  v3:=Tryz.zeroValue3
  t9:=Tryz.underlying9
  a9:=Tryz.isAgg9
  z9:=Tryz.sizeOf9
  v9:=Tryz.zeroValue9
  t37:=Tryz.underlying157
  a37:=Tryz.isAgg157
  z37:=Tryz.sizeOf157
  v37:=Tryz.zeroValue157
  t70:=Tryz.underlying156
  a70:=Tryz.isAgg156
  z70:=Tryz.sizeOf156
  v70:=Tryz.zeroValue156
  t72:=Tryz.underlying159
  a72:=Tryz.isAgg159
  z72:=Tryz.sizeOf159
  v72:=Tryz.zeroValue159
  t127:=Tryz.underlying195
  a127:=Tryz.isAgg195
  z127:=Tryz.sizeOf195
  v127:=Tryz.zeroValue195 }
theorem Tryz.Builder_Extra_169:Builder.Extra Tryz.prog Tryz.lays169_ren:={
  sizeBuilder:=by kernel_rfl
  liesBuilder:=by kernel_rfl
  t5:=Tryz.underlying5
  a5:=Tryz.isAgg5
  z5:=Tryz.sizeOf5
  v5:=Tryz.zeroValue5
  infoByte:=by kernel_rfl
  cellsByte:=by kernel_rfl
  sizeByte:=by kernel_rfl
  neB5:=by decide }
open Go.RowKit in
theorem Tryz.Builder_String (B b:Nat) (l:List UInt8) (w:World) (h:Lib.IsBuilder 159 5 B b (Lib.byteCells l) w) (h0:l≠[]) :
    Calls Tryz.prog 112 #[.pointer (some ⟨b,0,none⟩)] w fun e w'=>e=.returned (.string ⟨l.toArray⟩)∧Below B w w':=Any.Builder_String Tryz.lays169 Tryz.Builder_Extra_169 B b l w h h0
def Tryz.lays160_ren:Go.Shelf.Ren:=⟨fun | 160=>36 | 232=>72 | 231=>71 | 227=>73 | 234=>75 | 233=>74 | 236=>77 | 235=>76 | 228=>118 | 271=>121 | 151=>120 | 197=>119 | 120=>158 | 152=>157 | 260=>156 | 137=>187 | 119=>188 | 224=>185 | 225=>184 | 217=>183 | 266=>208 | n=>n,fun | 9=>9 | 4=>4 | 3=>3 | 5=>5 | 117=>114 | 116=>113 | 0=>0 | 124=>117 | 21=>21 | 105=>169 | 46=>144 | 119=>227 | 139=>230 | 138=>229 | n=>n,fun | 3=>2 | 4=>3 | n=>n⟩
theorem Tryz.lays160:Go.Proofs.Lays.n160 Tryz.prog Tryz.lays160_ren:={
  mixed:=by kernel_rfl
  f119:=Tryz.func188.trans (congrArg some (by kernel_rfl))
  f120:=Tryz.func158.trans (congrArg some (by kernel_rfl))
  f137:=Tryz.func187.trans (congrArg some (by kernel_rfl))
  f151:=Tryz.func120.trans (congrArg some (by kernel_rfl))
  f152:=Tryz.func157.trans (congrArg some (by kernel_rfl))
  f160:=Tryz.func36.trans (congrArg some (by kernel_rfl))
  f197:=Tryz.func119.trans (congrArg some (by kernel_rfl))
  f217:=Tryz.func183.trans (congrArg some (by kernel_rfl))
  f224:=Tryz.func185.trans (congrArg some (by kernel_rfl))
  f225:=Tryz.func184.trans (congrArg some (by kernel_rfl))
  f227:=Tryz.func73.trans (congrArg some (by kernel_rfl))
  f228:=Tryz.func118.trans (congrArg some (by kernel_rfl))
  f231:=Tryz.func71.trans (congrArg some (by kernel_rfl))
  f232:=Tryz.func72.trans (congrArg some (by kernel_rfl))
  f233:=Tryz.func74.trans (congrArg some (by kernel_rfl))
  f234:=Tryz.func75.trans (congrArg some (by kernel_rfl))
  f235:=Tryz.func76.trans (congrArg some (by kernel_rfl))
  f236:=Tryz.func77.trans (congrArg some (by kernel_rfl))
  f260:=Tryz.func156.trans (congrArg some (by kernel_rfl))
  f266:=Tryz.func208.trans (congrArg some (by kernel_rfl))
  f271:=Tryz.func121.trans (congrArg some (by kernel_rfl))
  t0:=Tryz.underlying0
  a0:=Tryz.isAgg0
  z0:=Tryz.sizeOf0
  v0:=Tryz.zeroValue0
  t3:=Tryz.underlying3
  a3:=Tryz.isAgg3
  z3:=Tryz.sizeOf3
  v3:=Tryz.zeroValue3
  t4:=Tryz.underlying4
  a4:=Tryz.isAgg4
  z4:=Tryz.sizeOf4
  v4:=Tryz.zeroValue4
  t5:=Tryz.underlying5
  a5:=Tryz.isAgg5
  z5:=Tryz.sizeOf5
  v5:=Tryz.zeroValue5
  t9:=Tryz.underlying9
  a9:=Tryz.isAgg9
  z9:=Tryz.sizeOf9
  v9:=Tryz.zeroValue9
  t21:=Tryz.underlying21
  a21:=Tryz.isAgg21
  z21:=Tryz.sizeOf21
  v21:=Tryz.zeroValue21
  t46:=Tryz.underlying144
  a46:=Tryz.isAgg144
  z46:=Tryz.sizeOf144
  v46:=Tryz.zeroValue144
  t105:=Tryz.underlying169
  a105:=Tryz.isAgg169
  z105:=Tryz.sizeOf169
  v105:=Tryz.zeroValue169
  t116:=Tryz.underlying113
  a116:=Tryz.isAgg113
  z116:=Tryz.sizeOf113
  t117:=Tryz.underlying114
  a117:=Tryz.isAgg114
  z117:=Tryz.sizeOf114
  v117:=Tryz.zeroValue114
  t119:=Tryz.underlying227
  a119:=Tryz.isAgg227
  z119:=Tryz.sizeOf227
  t124:=Tryz.underlying117
  a124:=Tryz.isAgg117
  z124:=Tryz.sizeOf117
  v124:=Tryz.zeroValue117
  t138:=Tryz.underlying229
  a138:=Tryz.isAgg229
  z138:=Tryz.sizeOf229
  v138:=Tryz.zeroValue229
  t139:=Tryz.underlying230
  a139:=Tryz.isAgg230
  z139:=Tryz.sizeOf230
  v139:=Tryz.zeroValue230
  g3:=by kernel_rfl
  g4:=by kernel_rfl }
def Tryz.lays128_ren:Go.Shelf.Ren:=⟨fun | 128=>140 | n=>n,fun | 51=>101 | 3=>3 | 4=>4 | 46=>144 | 5=>5 | 9=>9 | n=>n,fun | n=>n⟩
theorem Tryz.lays128:Go.Proofs.Lays.n128 Tryz.prog Tryz.lays128_ren:={
  mixed:=by kernel_rfl
  f128:=Tryz.func140.trans (congrArg some (by kernel_rfl))
  t3:=Tryz.underlying3
  a3:=Tryz.isAgg3
  z3:=Tryz.sizeOf3
  v3:=Tryz.zeroValue3
  t4:=Tryz.underlying4
  a4:=Tryz.isAgg4
  z4:=Tryz.sizeOf4
  v4:=Tryz.zeroValue4
  t5:=Tryz.underlying5
  a5:=Tryz.isAgg5
  z5:=Tryz.sizeOf5
  v5:=Tryz.zeroValue5
  t9:=Tryz.underlying9
  a9:=Tryz.isAgg9
  z9:=Tryz.sizeOf9
  v9:=Tryz.zeroValue9
  t46:=Tryz.underlying144
  a46:=Tryz.isAgg144
  z46:=Tryz.sizeOf144
  v46:=Tryz.zeroValue144
  t51:=Tryz.underlying101
  a51:=Tryz.isAgg101
  z51:=Tryz.sizeOf101
  v51:=Tryz.zeroValue101 }
theorem Tryz.bits_Len32 (x:Int) (w:World) (h0:0≤x) (h1:x≤4294967295) :
    Calls Tryz.prog 140 #[.int .u32 x] w fun e w'=>e=.returned (.int .i64 (Lib.bitLen x.toNat))∧w'=w:=Any.bits_Len32 Tryz.lays128 x w h0 h1
def Tryz.lays133_ren:Go.Shelf.Ren:=⟨fun | 133=>142 | 128=>140 | n=>n,fun | 51=>101 | 3=>3 | 4=>4 | 46=>144 | 5=>5 | 9=>9 | n=>n,fun | n=>n⟩
theorem Tryz.lays133:Go.Proofs.Lays.n133 Tryz.prog Tryz.lays133_ren:={
  mixed:=by kernel_rfl
  f128:=Tryz.func140.trans (congrArg some (by kernel_rfl))
  f133:=Tryz.func142.trans (congrArg some (by kernel_rfl))
  t3:=Tryz.underlying3
  a3:=Tryz.isAgg3
  z3:=Tryz.sizeOf3
  v3:=Tryz.zeroValue3
  t4:=Tryz.underlying4
  a4:=Tryz.isAgg4
  z4:=Tryz.sizeOf4
  v4:=Tryz.zeroValue4
  t5:=Tryz.underlying5
  a5:=Tryz.isAgg5
  z5:=Tryz.sizeOf5
  v5:=Tryz.zeroValue5
  t9:=Tryz.underlying9
  a9:=Tryz.isAgg9
  z9:=Tryz.sizeOf9
  v9:=Tryz.zeroValue9
  t46:=Tryz.underlying144
  a46:=Tryz.isAgg144
  z46:=Tryz.sizeOf144
  v46:=Tryz.zeroValue144
  t51:=Tryz.underlying101
  a51:=Tryz.isAgg101
  z51:=Tryz.sizeOf101
  v51:=Tryz.zeroValue101 }
theorem Tryz.bits_LeadingZeros32 (x:Int) (w:World) (h0:0≤x) (h1:x≤4294967295) :
    Calls Tryz.prog 142 #[.int .u32 x] w fun e w'=>e=.returned (.int .i64 (32-(Lib.bitLen x.toNat:Int)))∧w'=w:=Any.bits_LeadingZeros32 Tryz.lays133 x w h0 h1
def Tryz.lays103_ren:Go.Shelf.Ren:=⟨fun | 103=>164 | 210=>189 | 206=>69 | n=>n,fun | 9=>9 | 4=>4 | 24=>204 | 3=>3 | n=>n,fun | n=>n⟩
theorem Tryz.lays103:Go.Proofs.Lays.n103 Tryz.prog Tryz.lays103_ren:={
  mixed:=by kernel_rfl
  f103:=Tryz.func164.trans (congrArg some (by kernel_rfl))
  f206:=Tryz.func69.trans (congrArg some (by kernel_rfl))
  f210:=Tryz.func189.trans (congrArg some (by kernel_rfl))
  t3:=Tryz.underlying3
  a3:=Tryz.isAgg3
  z3:=Tryz.sizeOf3
  v3:=Tryz.zeroValue3
  t4:=Tryz.underlying4
  a4:=Tryz.isAgg4
  z4:=Tryz.sizeOf4
  v4:=Tryz.zeroValue4
  t9:=Tryz.underlying9
  a9:=Tryz.isAgg9
  z9:=Tryz.sizeOf9
  v9:=Tryz.zeroValue9
  t24:=Tryz.underlying204
  a24:=Tryz.isAgg204
  z24:=Tryz.sizeOf204
  v24:=Tryz.zeroValue204 }
open Go.RowKit in
theorem Tryz.strings_CutPrefix (s p:ByteArray) (w:World) :
    Calls Tryz.prog 164 #[.string s,.string p] w fun e w'=>e=.returned (.tuple #[.string ⟨(Lib.trimPrefix s.data.toList p.data.toList).toArray⟩,.bool (Lib.hasPrefix s.data.toList p.data.toList)])∧w'=w:=Any.strings_CutPrefix Tryz.lays103 s p w
def Tryz.lays283_ren:Go.Shelf.Ren:=⟨fun | 283=>175 | n=>n,fun | 3=>3 | 9=>9 | 4=>4 | n=>n,fun | n=>n⟩
theorem Tryz.lays283:Go.Proofs.Lays.n283 Tryz.prog Tryz.lays283_ren:={
  mixed:=by kernel_rfl
  f283:=Tryz.func175.trans (congrArg some (by kernel_rfl))
  t3:=Tryz.underlying3
  a3:=Tryz.isAgg3
  z3:=Tryz.sizeOf3
  v3:=Tryz.zeroValue3
  t4:=Tryz.underlying4
  a4:=Tryz.isAgg4
  z4:=Tryz.sizeOf4
  v4:=Tryz.zeroValue4
  t9:=Tryz.underlying9
  a9:=Tryz.isAgg9
  z9:=Tryz.sizeOf9
  v9:=Tryz.zeroValue9 }
open Go.Lib in
theorem Tryz.internal_strconv_small (i:Nat) (h:i<100) (w:World) :
    Calls Tryz.prog 175 #[.int .i64 i] w fun e w'=>e=.returned (.string ⟨(Lib.decDigits i).toArray⟩)∧w'=w:=Any.internal_strconv_small Tryz.lays283 i h w
def Tryz.laysM284_ren:Go.Shelf.Ren:=⟨fun | 284=>176 | 129=>203 | 317=>202 | 318=>204 | n=>n,fun | 53=>120 | 3=>3 | 212=>243 | 0=>0 | 4=>4 | 46=>144 | 5=>5 | 9=>9 | n=>n,fun | 17=>4 | n=>n⟩
theorem Tryz.laysM284:Go.Proofs.LaysM.n284 Tryz.prog Tryz.laysM284_ren:={
  mixed:=by kernel_rfl
  f129:=Tryz.func203.trans (congrArg some (by kernel_rfl))
  f284:=Tryz.func176.trans (congrArg some (by kernel_rfl))
  f317:=Tryz.func202.trans (congrArg some (by kernel_rfl))
  f318:=Tryz.func204.trans (congrArg some (by kernel_rfl))
  t0:=Tryz.underlying0
  a0:=Tryz.isAgg0
  z0:=Tryz.sizeOf0
  v0:=Tryz.zeroValue0
  t3:=Tryz.underlying3
  a3:=Tryz.isAgg3
  z3:=Tryz.sizeOf3
  v3:=Tryz.zeroValue3
  t4:=Tryz.underlying4
  a4:=Tryz.isAgg4
  z4:=Tryz.sizeOf4
  v4:=Tryz.zeroValue4
  t5:=Tryz.underlying5
  a5:=Tryz.isAgg5
  z5:=Tryz.sizeOf5
  v5:=Tryz.zeroValue5
  t9:=Tryz.underlying9
  a9:=Tryz.isAgg9
  z9:=Tryz.sizeOf9
  v9:=Tryz.zeroValue9
  t46:=Tryz.underlying144
  a46:=Tryz.isAgg144
  z46:=Tryz.sizeOf144
  v46:=Tryz.zeroValue144
  t53:=Tryz.underlying120
  a53:=Tryz.isAgg120
  z53:=Tryz.sizeOf120
  v53:=Tryz.zeroValue120
  t212:=Tryz.underlying243
  a212:=Tryz.isAgg243
  z212:=Tryz.sizeOf243
  v212:=Tryz.zeroValue243
  g17:=by kernel_rfl
  i0:=by kernel_rfl
  i3:=by kernel_rfl
  i4:=by kernel_rfl
  i5:=by kernel_rfl
  i9:=by kernel_rfl
  i46:=by kernel_rfl
  i53:=by kernel_rfl
  i212:=by kernel_rfl
  m17:=by kernel_rfl }
open Go.Lib in
theorem Tryz.internal_strconv_numDigits (u:Nat) (h1:1≤u) (h2:u<18446744073709551616) (w:World) (htab:Lib.TabIs Tryz.prog w "internal/strconv.uint64pow10" .u64 Lib.pow10Tab) :
    Calls Tryz.prog 176 #[.int .u64 u] w fun e w'=>e=.returned (.int .i64 (Lib.nDigits u))∧w'=w:=Any.internal_strconv_numDigits Tryz.laysM284 u h1 h2 w htab
def Tryz.lays285_ren:Go.Shelf.Ren:=⟨fun | 285=>177 | n=>n,fun | 37=>157 | 53=>120 | 3=>3 | 4=>4 | 51=>101 | 9=>9 | 5=>5 | 0=>0 | n=>n,fun | n=>n⟩
theorem Tryz.lays285:Go.Proofs.Lays.n285 Tryz.prog Tryz.lays285_ren:={
  mixed:=by kernel_rfl
  f285:=Tryz.func177.trans (congrArg some (by kernel_rfl))
  t0:=Tryz.underlying0
  a0:=Tryz.isAgg0
  z0:=Tryz.sizeOf0
  v0:=Tryz.zeroValue0
  t3:=Tryz.underlying3
  a3:=Tryz.isAgg3
  z3:=Tryz.sizeOf3
  v3:=Tryz.zeroValue3
  t4:=Tryz.underlying4
  a4:=Tryz.isAgg4
  z4:=Tryz.sizeOf4
  v4:=Tryz.zeroValue4
  t5:=Tryz.underlying5
  a5:=Tryz.isAgg5
  z5:=Tryz.sizeOf5
  v5:=Tryz.zeroValue5
  t9:=Tryz.underlying9
  a9:=Tryz.isAgg9
  z9:=Tryz.sizeOf9
  v9:=Tryz.zeroValue9
  t37:=Tryz.underlying157
  a37:=Tryz.isAgg157
  z37:=Tryz.sizeOf157
  v37:=Tryz.zeroValue157
  t51:=Tryz.underlying101
  a51:=Tryz.isAgg101
  z51:=Tryz.sizeOf101
  v51:=Tryz.zeroValue101
  t53:=Tryz.underlying120
  a53:=Tryz.isAgg120
  z53:=Tryz.sizeOf120
  v53:=Tryz.zeroValue120 }
open Go.RowKit Go.Sort Go.Lib in
theorem Tryz.internal_strconv_formatBase10 (blk off cap:Nat) (u:Nat) (d:Array UInt8) (w:World) (hH:Holds (fun (b:UInt8)=>Value.int .u8 (b.toNat:Int)) w blk off d) (hu:u<10^d.size) (hu64:u<18446744073709551616) (hsz:d.size<4611686018427387904) :
    Calls Tryz.prog 177 #[.slice (some ⟨blk,off,none⟩) d.size cap,.int .u64 u] w fun e w' =>
      e=.returned (.tuple #[])∧∃ (n v':Nat) (dk:Array UInt8),w'=(putRow (fun (b:UInt8)=>Value.int .u8 (b.toNat:Int)) w blk off dk).drewN n∧FmtInv d.size u 0 v' dk:=Any.internal_strconv_formatBase10 Tryz.lays285 blk off cap u d w hH hu hu64 hsz
def Tryz.lays145_ren:Go.Shelf.Ren:=⟨fun | 145=>165 | 220=>190 | 219=>155 | 217=>183 | 225=>184 | 224=>185 | 267=>186 | 266=>208 | 314=>209 | n=>n,fun | 9=>9 | 4=>4 | 59=>206 | 3=>3 | 5=>5 | 46=>144 | 146=>223 | 51=>101 | n=>n,fun | 1=>1 | n=>n⟩
theorem Tryz.lays145:Go.Proofs.Lays.n145 Tryz.prog Tryz.lays145_ren:={
  mixed:=by kernel_rfl
  f145:=Tryz.func165.trans (congrArg some (by kernel_rfl))
  f217:=Tryz.func183.trans (congrArg some (by kernel_rfl))
  f219:=Tryz.func155.trans (congrArg some (by kernel_rfl))
  f220:=Tryz.func190.trans (congrArg some (by kernel_rfl))
  f224:=Tryz.func185.trans (congrArg some (by kernel_rfl))
  f225:=Tryz.func184.trans (congrArg some (by kernel_rfl))
  f266:=Tryz.func208.trans (congrArg some (by kernel_rfl))
  f267:=Tryz.func186.trans (congrArg some (by kernel_rfl))
  f314:=Tryz.func209.trans (congrArg some (by kernel_rfl))
  t3:=Tryz.underlying3
  a3:=Tryz.isAgg3
  z3:=Tryz.sizeOf3
  v3:=Tryz.zeroValue3
  t4:=Tryz.underlying4
  a4:=Tryz.isAgg4
  z4:=Tryz.sizeOf4
  v4:=Tryz.zeroValue4
  t5:=Tryz.underlying5
  a5:=Tryz.isAgg5
  z5:=Tryz.sizeOf5
  v5:=Tryz.zeroValue5
  t9:=Tryz.underlying9
  a9:=Tryz.isAgg9
  z9:=Tryz.sizeOf9
  v9:=Tryz.zeroValue9
  t46:=Tryz.underlying144
  a46:=Tryz.isAgg144
  z46:=Tryz.sizeOf144
  v46:=Tryz.zeroValue144
  t51:=Tryz.underlying101
  a51:=Tryz.isAgg101
  z51:=Tryz.sizeOf101
  v51:=Tryz.zeroValue101
  t59:=Tryz.underlying206
  a59:=Tryz.isAgg206
  z59:=Tryz.sizeOf206
  v59:=Tryz.zeroValue206
  t146:=Tryz.underlying223
  a146:=Tryz.isAgg223
  z146:=Tryz.sizeOf223
  v146:=Tryz.zeroValue223
  g1:=by kernel_rfl }
open Go.RowKit Go.Lib in
theorem Tryz.strings_Cut (s sep:ByteArray) (m:Int) (w:World) (hs:s.size<4294967281) (hm:w.cell? ⟨1,0,none⟩=some (.int .i64 m)) :
    Calls Tryz.prog 165 #[.string s,.string sep] w fun e w'=>e=.returned (.tuple #[.string ⟨(Lib.cut s.data.toList sep.data.toList).1.toArray⟩,.string ⟨(Lib.cut s.data.toList sep.data.toList).2.1.toArray⟩,.bool (Lib.cut s.data.toList sep.data.toList).2.2])∧∃ n,w'=w.drewN n:=Any.strings_Cut Tryz.lays145 s sep m w hs hm
def Tryz.laysM145_ren:Go.Shelf.Ren:=⟨fun | 145=>165 | 220=>190 | 219=>155 | 217=>183 | 225=>184 | 224=>185 | 267=>186 | 266=>208 | 314=>209 | n=>n,fun | 9=>9 | 4=>4 | 59=>206 | 3=>3 | 5=>5 | 46=>144 | 146=>223 | 51=>101 | n=>n,fun | 1=>1 | n=>n⟩
theorem Tryz.laysM145:Go.Proofs.LaysM.n145 Tryz.prog Tryz.laysM145_ren:={
  mixed:=by kernel_rfl
  f145:=Tryz.func165.trans (congrArg some (by kernel_rfl))
  f217:=Tryz.func183.trans (congrArg some (by kernel_rfl))
  f219:=Tryz.func155.trans (congrArg some (by kernel_rfl))
  f220:=Tryz.func190.trans (congrArg some (by kernel_rfl))
  f224:=Tryz.func185.trans (congrArg some (by kernel_rfl))
  f225:=Tryz.func184.trans (congrArg some (by kernel_rfl))
  f266:=Tryz.func208.trans (congrArg some (by kernel_rfl))
  f267:=Tryz.func186.trans (congrArg some (by kernel_rfl))
  f314:=Tryz.func209.trans (congrArg some (by kernel_rfl))
  t3:=Tryz.underlying3
  a3:=Tryz.isAgg3
  z3:=Tryz.sizeOf3
  v3:=Tryz.zeroValue3
  t4:=Tryz.underlying4
  a4:=Tryz.isAgg4
  z4:=Tryz.sizeOf4
  v4:=Tryz.zeroValue4
  t5:=Tryz.underlying5
  a5:=Tryz.isAgg5
  z5:=Tryz.sizeOf5
  v5:=Tryz.zeroValue5
  t9:=Tryz.underlying9
  a9:=Tryz.isAgg9
  z9:=Tryz.sizeOf9
  v9:=Tryz.zeroValue9
  t46:=Tryz.underlying144
  a46:=Tryz.isAgg144
  z46:=Tryz.sizeOf144
  v46:=Tryz.zeroValue144
  t51:=Tryz.underlying101
  a51:=Tryz.isAgg101
  z51:=Tryz.sizeOf101
  v51:=Tryz.zeroValue101
  t59:=Tryz.underlying206
  a59:=Tryz.isAgg206
  z59:=Tryz.sizeOf206
  v59:=Tryz.zeroValue206
  t146:=Tryz.underlying223
  a146:=Tryz.isAgg223
  z146:=Tryz.sizeOf223
  v146:=Tryz.zeroValue223
  g1:=by kernel_rfl
  i3:=by kernel_rfl
  i4:=by kernel_rfl
  i5:=by kernel_rfl
  i9:=by kernel_rfl
  i46:=by kernel_rfl
  i51:=by kernel_rfl
  i59:=by kernel_rfl
  i146:=by kernel_rfl
  m1:=by kernel_rfl
  s1_3:=fun w h=>Go.Proofs.cell_of_shapedOpen_int (zero:=#[.int .i64 0]) (t:=3) h (of_decide_eq_true (by kernel_rfl)) (by kernel_rfl) rfl (by kernel_rfl) (by kernel_rfl) Tryz.underlying3 }
def Tryz.lays99_ren:Go.Shelf.Ren:=⟨fun | 99=>33 | 206=>69 | n=>n,fun | 9=>9 | 4=>4 | 3=>3 | n=>n,fun | n=>n⟩
theorem Tryz.lays99:Go.Proofs.Lays.n99 Tryz.prog Tryz.lays99_ren:={
  mixed:=by kernel_rfl
  f99:=Tryz.func33.trans (congrArg some (by kernel_rfl))
  f206:=Tryz.func69.trans (congrArg some (by kernel_rfl))
  t3:=Tryz.underlying3
  a3:=Tryz.isAgg3
  z3:=Tryz.sizeOf3
  v3:=Tryz.zeroValue3
  t4:=Tryz.underlying4
  a4:=Tryz.isAgg4
  z4:=Tryz.sizeOf4
  v4:=Tryz.zeroValue4
  t9:=Tryz.underlying9
  a9:=Tryz.isAgg9
  z9:=Tryz.sizeOf9
  v9:=Tryz.zeroValue9 }
open Go.RowKit Go.Lib in
theorem Tryz.strings_HasPrefix (s p:ByteArray) (w:World) :
    Calls Tryz.prog 33 #[.string s,.string p] w fun e w'=>e=.returned (.bool (Lib.hasPrefix s.data.toList p.data.toList))∧w'=w:=Any.strings_HasPrefix Tryz.lays99 s p w
def Tryz.lays147_ren:Go.Shelf.Ren:=⟨fun | 147=>34 | 221=>70 | 268=>115 | 138=>116 | 143=>117 | 195=>153 | 197=>119 | 218=>154 | 219=>155 | 260=>156 | 217=>183 | 225=>184 | 224=>185 | 267=>186 | 266=>208 | 314=>209 | n=>n,fun | 9=>9 | 3=>3 | 31=>80 | 4=>4 | 0=>0 | 105=>169 | 21=>21 | 5=>5 | 46=>144 | 119=>227 | 139=>230 | 138=>229 | 146=>223 | 51=>101 | n=>n,fun | 1=>1 | 3=>2 | 4=>3 | n=>n⟩
theorem Tryz.lays147:Go.Proofs.Lays.n147 Tryz.prog Tryz.lays147_ren:={
  mixed:=by kernel_rfl
  f138:=Tryz.func116.trans (congrArg some (by kernel_rfl))
  f143:=Tryz.func117.trans (congrArg some (by kernel_rfl))
  f147:=Tryz.func34.trans (congrArg some (by kernel_rfl))
  f195:=Tryz.func153.trans (congrArg some (by kernel_rfl))
  f197:=Tryz.func119.trans (congrArg some (by kernel_rfl))
  f217:=Tryz.func183.trans (congrArg some (by kernel_rfl))
  f218:=Tryz.func154.trans (congrArg some (by kernel_rfl))
  f219:=Tryz.func155.trans (congrArg some (by kernel_rfl))
  f221:=Tryz.func70.trans (congrArg some (by kernel_rfl))
  f224:=Tryz.func185.trans (congrArg some (by kernel_rfl))
  f225:=Tryz.func184.trans (congrArg some (by kernel_rfl))
  f260:=Tryz.func156.trans (congrArg some (by kernel_rfl))
  f266:=Tryz.func208.trans (congrArg some (by kernel_rfl))
  f267:=Tryz.func186.trans (congrArg some (by kernel_rfl))
  f268:=Tryz.func115.trans (congrArg some (by kernel_rfl))
  f314:=Tryz.func209.trans (congrArg some (by kernel_rfl))
  t0:=Tryz.underlying0
  a0:=Tryz.isAgg0
  z0:=Tryz.sizeOf0
  v0:=Tryz.zeroValue0
  t3:=Tryz.underlying3
  a3:=Tryz.isAgg3
  z3:=Tryz.sizeOf3
  v3:=Tryz.zeroValue3
  t4:=Tryz.underlying4
  a4:=Tryz.isAgg4
  z4:=Tryz.sizeOf4
  v4:=Tryz.zeroValue4
  t5:=Tryz.underlying5
  a5:=Tryz.isAgg5
  z5:=Tryz.sizeOf5
  v5:=Tryz.zeroValue5
  t9:=Tryz.underlying9
  a9:=Tryz.isAgg9
  z9:=Tryz.sizeOf9
  v9:=Tryz.zeroValue9
  t21:=Tryz.underlying21
  a21:=Tryz.isAgg21
  z21:=Tryz.sizeOf21
  v21:=Tryz.zeroValue21
  t31:=Tryz.underlying80
  a31:=Tryz.isAgg80
  z31:=Tryz.sizeOf80
  v31:=Tryz.zeroValue80
  t46:=Tryz.underlying144
  a46:=Tryz.isAgg144
  z46:=Tryz.sizeOf144
  v46:=Tryz.zeroValue144
  t51:=Tryz.underlying101
  a51:=Tryz.isAgg101
  z51:=Tryz.sizeOf101
  v51:=Tryz.zeroValue101
  t105:=Tryz.underlying169
  a105:=Tryz.isAgg169
  z105:=Tryz.sizeOf169
  v105:=Tryz.zeroValue169
  t119:=Tryz.underlying227
  a119:=Tryz.isAgg227
  z119:=Tryz.sizeOf227
  t138:=Tryz.underlying229
  a138:=Tryz.isAgg229
  z138:=Tryz.sizeOf229
  v138:=Tryz.zeroValue229
  t139:=Tryz.underlying230
  a139:=Tryz.isAgg230
  z139:=Tryz.sizeOf230
  v139:=Tryz.zeroValue230
  t146:=Tryz.underlying223
  a146:=Tryz.isAgg223
  z146:=Tryz.sizeOf223
  v146:=Tryz.zeroValue223
  g1:=by kernel_rfl
  g3:=by kernel_rfl
  g4:=by kernel_rfl }
open Go.RowKit Go.Lib in
theorem Tryz.strings_SplitN (s sep:ByteArray) (n:Nat) (m:Int) (w:World) (hs:s.size<4294967281) (hm:w.cell? ⟨1,0,none⟩=some (.int .i64 m)) (h1:1≤sep.size) (hn:1≤n) (hn63:n≤9223372036854775807) :
    Calls Tryz.prog 34 #[.string s,.string sep,.int .i64 n] w fun e w' =>
      e=.returned (.slice (some ⟨w.heap.size,0,none⟩) (Lib.splitB sep 0 (min n (s.size+1)-1) s).length (min n (s.size+1)))∧w'=w.alloc (.cells (Lib.cellsOf (Lib.splitB sep 0 (min n (s.size+1)-1) s) (min n (s.size+1))) 9):=Any.strings_SplitN Tryz.lays147 (by kernel_rfl) s sep n m w hs hm h1 hn hn63
def Tryz.lays212_ren:Go.Shelf.Ren:=⟨fun | 212=>150 | 263=>180 | 264=>181 | n=>n,fun | 46=>144 | 51=>101 | 146=>223 | 53=>120 | 148=>225 | n=>n,fun | n=>n⟩
theorem Tryz.lays212:Go.Proofs.Lays.n212 Tryz.prog Tryz.lays212_ren:={
  mixed:=by kernel_rfl
  f212:=Tryz.func150.trans (congrArg some (by kernel_rfl))
  f263:=Tryz.func180.trans (congrArg some (by kernel_rfl))
  f264:=Tryz.func181.trans (congrArg some (by kernel_rfl))
  t46:=Tryz.underlying144
  a46:=Tryz.isAgg144
  z46:=Tryz.sizeOf144
  v46:=Tryz.zeroValue144
  t51:=Tryz.underlying101
  a51:=Tryz.isAgg101
  z51:=Tryz.sizeOf101
  v51:=Tryz.zeroValue101
  t53:=Tryz.underlying120
  a53:=Tryz.isAgg120
  z53:=Tryz.sizeOf120
  v53:=Tryz.zeroValue120
  t146:=Tryz.underlying223
  a146:=Tryz.isAgg223
  z146:=Tryz.sizeOf223
  v146:=Tryz.zeroValue223
  t148:=Tryz.underlying225
  a148:=Tryz.isAgg225
  z148:=Tryz.sizeOf225
  v148:=Tryz.zeroValue225 }
open Go.RowKit Go.Lib in
theorem Tryz.bits_Mul (x y:Nat) (hx:x<18446744073709551616) (hy:y<18446744073709551616) (w:World) :
    Calls Tryz.prog 150 #[.int .u64 x,.int .u64 y] w fun e w'=>e=.returned (.tuple #[.int .u64 ((x*y / 18446744073709551616:Nat):Int),.int .u64 ((x*y % 18446744073709551616:Nat):Int)])∧w'=w:=Any.bits_Mul Tryz.lays212 x y hx hy w
def Tryz.lays105_ren:Go.Shelf.Ren:=⟨fun | 105=>111 | 212=>150 | 99=>33 | 165=>151 | 166=>110 | 170=>152 | 169=>112 | 263=>180 | 264=>181 | 206=>69 | 240=>149 | 241=>182 | 276=>179 | 277=>207 | n=>n,fun | 9=>9 | 3=>3 | 4=>4 | 20=>20 | 0=>0 | 46=>144 | 109=>192 | 5=>5 | 72=>159 | 76=>163 | 51=>101 | 146=>223 | 53=>120 | 148=>225 | 70=>156 | 37=>157 | 75=>162 | 127=>195 | 164=>221 | 80=>103 | n=>n,fun | n=>n⟩
theorem Tryz.lays105:Go.Proofs.Lays.n105 Tryz.prog Tryz.lays105_ren:={
  mixed:=by kernel_rfl
  f99:=Tryz.func33.trans (congrArg some (by kernel_rfl))
  f105:=Tryz.func111.trans (congrArg some (by kernel_rfl))
  f165:=Tryz.func151.trans (congrArg some (by kernel_rfl))
  f166:=Tryz.func110.trans (congrArg some (by kernel_rfl))
  f169:=Tryz.func112.trans (congrArg some (by kernel_rfl))
  f170:=Tryz.func152.trans (congrArg some (by kernel_rfl))
  f206:=Tryz.func69.trans (congrArg some (by kernel_rfl))
  f212:=Tryz.func150.trans (congrArg some (by kernel_rfl))
  f240:=Tryz.func149.trans (congrArg some (by kernel_rfl))
  f241:=Tryz.func182.trans (congrArg some (by kernel_rfl))
  f263:=Tryz.func180.trans (congrArg some (by kernel_rfl))
  f264:=Tryz.func181.trans (congrArg some (by kernel_rfl))
  f276:=Tryz.func179.trans (congrArg some (by kernel_rfl))
  f277:=Tryz.func207.trans (congrArg some (by kernel_rfl))
  t0:=Tryz.underlying0
  a0:=Tryz.isAgg0
  z0:=Tryz.sizeOf0
  v0:=Tryz.zeroValue0
  t3:=Tryz.underlying3
  a3:=Tryz.isAgg3
  z3:=Tryz.sizeOf3
  v3:=Tryz.zeroValue3
  t4:=Tryz.underlying4
  a4:=Tryz.isAgg4
  z4:=Tryz.sizeOf4
  v4:=Tryz.zeroValue4
  t5:=Tryz.underlying5
  a5:=Tryz.isAgg5
  z5:=Tryz.sizeOf5
  v5:=Tryz.zeroValue5
  t9:=Tryz.underlying9
  a9:=Tryz.isAgg9
  z9:=Tryz.sizeOf9
  v9:=Tryz.zeroValue9
  t20:=Tryz.underlying20
  a20:=Tryz.isAgg20
  z20:=Tryz.sizeOf20
  v20:=Tryz.zeroValue20
  t37:=Tryz.underlying157
  a37:=Tryz.isAgg157
  z37:=Tryz.sizeOf157
  v37:=Tryz.zeroValue157
  t46:=Tryz.underlying144
  a46:=Tryz.isAgg144
  z46:=Tryz.sizeOf144
  v46:=Tryz.zeroValue144
  t51:=Tryz.underlying101
  a51:=Tryz.isAgg101
  z51:=Tryz.sizeOf101
  v51:=Tryz.zeroValue101
  t53:=Tryz.underlying120
  a53:=Tryz.isAgg120
  z53:=Tryz.sizeOf120
  v53:=Tryz.zeroValue120
  t70:=Tryz.underlying156
  a70:=Tryz.isAgg156
  z70:=Tryz.sizeOf156
  v70:=Tryz.zeroValue156
  t72:=Tryz.underlying159
  a72:=Tryz.isAgg159
  z72:=Tryz.sizeOf159
  v72:=Tryz.zeroValue159
  t75:=Tryz.underlying162
  a75:=Tryz.isAgg162
  z75:=Tryz.sizeOf162
  v75:=Tryz.zeroValue162
  t76:=Tryz.underlying163
  a76:=Tryz.isAgg163
  z76:=Tryz.sizeOf163
  v76:=Tryz.zeroValue163
  t109:=Tryz.underlying192
  a109:=Tryz.isAgg192
  z109:=Tryz.sizeOf192
  v109:=Tryz.zeroValue192
  t127:=Tryz.underlying195
  a127:=Tryz.isAgg195
  z127:=Tryz.sizeOf195
  v127:=Tryz.zeroValue195
  t146:=Tryz.underlying223
  a146:=Tryz.isAgg223
  z146:=Tryz.sizeOf223
  v146:=Tryz.zeroValue223
  t148:=Tryz.underlying225
  a148:=Tryz.isAgg225
  z148:=Tryz.sizeOf225
  v148:=Tryz.zeroValue225
  t164:=Tryz.underlying221
  a164:=Tryz.isAgg221
  z164:=Tryz.sizeOf221
  v164:=Tryz.zeroValue221 }
theorem Tryz.Builder_Extra_105:Builder.Extra Tryz.prog Tryz.lays105_ren:={
  sizeBuilder:=by kernel_rfl
  liesBuilder:=by kernel_rfl
  t5:=Tryz.underlying5
  a5:=Tryz.isAgg5
  z5:=Tryz.sizeOf5
  v5:=Tryz.zeroValue5
  infoByte:=by kernel_rfl
  cellsByte:=by kernel_rfl
  sizeByte:=by kernel_rfl
  neB5:=by decide }
open Go.RowKit Go.Lib in
theorem Tryz.strings_Repeat (s:ByteArray) (c:Nat) (w:World) (hc:c≤9223372036854775807) (hlen:s.size*c≤140737488355328) :
    Calls Tryz.prog 111 #[.string s,.int .i64 c] w fun e w'=>e=.returned (.string ⟨(Lib.repeatL s.data.toList c).toArray⟩)∧Below w.heap.size w w':=Any.strings_Repeat Tryz.lays105 Tryz.Builder_Extra_105 s c w hc hlen
end Go.Proofs
