/- The library's contracts at this translation: each one application of a contract of the shelf. -/
import Derived.Shelf.Strings.Builder1
import Derived.Shelf.Strings.Builder2
import Derived.Shelf.Strings.Trim
import Derived.Shelf.Small.Utf8
import Derived.Shelf.Small.Bits
import Derived.Shelf.Small.Strs
import Derived.Shelf.Small.Wraps
import Derived.Shelf.Strings.BuilderF
import Derived.Shelf.Strings.BuilderK
import Derived.Shelf.Utf8.RuneCount
import Derived.Shelf.Strings.Builder2Cap
import Derived.Shelf.Strconv.Itoa0
import Derived.Shelf.Strconv.Itoa1
import Derived.Shelf.LaysM
import Derived.Shelf.Strconv.Itoa2
import Derived.Shelf.Strings.Search1
import Derived.Shelf.Strings.Search2
import Derived.Shelf.Strings.Search3
import Derived.Shelf.Strings.Cut
import Derived.Shelf.Strings.Count
import Derived.Shelf.Strings.Shaped
import Derived.Shelf.Strings.Prefix
import Derived.Shelf.Strings.Split
import Derived.Shelf.Strings.SplitShaped
import Derived.Shelf.Unicode.Decode
import Derived.Shelf.Strings.Runes
import Derived.Shelf.Strings.RuneCount
import Derived.Shelf.Strings.AsciiSet
import Derived.Shelf.Strings.Explode
import Derived.Shelf.Bits.Mul64
import Derived.Shelf.Strings.Repeat
import Derived.Shelf.Unicode.DecodeSlow
import Derived.Shelf.Unicode.DecodeAny
import Derived.Shelf.Unicode.DecodeLast
import Derived.Shelf.Strings.BuilderCap
import Derived.Test.YtcoeancbjafooaaGreatDoorProg
namespace Go.Proofs
open Go.Shelf
def Tryz.lays169_ren:Go.Shelf.Ren:=⟨fun | 169=>128 | n=>n,fun | 70=>164 | 9=>9 | 0=>0 | 72=>167 | 37=>165 | 127=>204 | 3=>3 | 5=>5 | n=>n,fun | n=>n⟩
theorem Tryz.lays169:Go.Proofs.Lays.n169 Tryz.prog Tryz.lays169_ren:={
  mixed:=by kernel_rfl
  f169:=Tryz.func128.trans (congrArg some (by kernel_rfl))
  t0:=Tryz.underlying0
  a0:=Tryz.isAgg0
  z0:=Tryz.sizeOf0
  v0:=Tryz.zeroValue0
  t3:=Tryz.underlying3
  a3:=Tryz.isAgg3
  z3:=Tryz.sizeOf3
  v3:=Tryz.zeroValue3
  t9:=Tryz.underlying9
  a9:=Tryz.isAgg9
  z9:=Tryz.sizeOf9
  v9:=Tryz.zeroValue9
  t37:=Tryz.underlying165
  a37:=Tryz.isAgg165
  z37:=Tryz.sizeOf165
  v37:=Tryz.zeroValue165
  t70:=Tryz.underlying164
  a70:=Tryz.isAgg164
  z70:=Tryz.sizeOf164
  v70:=Tryz.zeroValue164
  t72:=Tryz.underlying167
  a72:=Tryz.isAgg167
  z72:=Tryz.sizeOf167
  v72:=Tryz.zeroValue167
  t127:=Tryz.underlying204
  a127:=Tryz.isAgg204
  z127:=Tryz.sizeOf204
  v127:=Tryz.zeroValue204 }
theorem Tryz.Builder_Extra_169:Builder.Extra Tryz.prog Tryz.lays169_ren:={
  sizeBuilder:=by kernel_rfl
  liesBuilder:=by kernel_rfl
  t5:=Tryz.underlying5
  a5:=Tryz.isAgg5
  z5:=Tryz.sizeOf5
  v5:=Tryz.zeroValue5
  infoByte:=by kernel_rfl
  cellsByte:=by kernel_rfl
  sizeByte:=by kernel_rfl
  neB5:=by decide }
open Go.RowKit in
theorem Tryz.Builder_String (B b:Nat) (l:List UInt8) (w:World) (h:Lib.IsBuilder 167 5 B b (Lib.byteCells l) w) (h0:l≠[]) :
    Calls Tryz.prog 128 #[.pointer (some ⟨b,0,none⟩)] w fun e w'=>e=.returned (.string ⟨l.toArray⟩)∧Below B w w':=Any.Builder_String Tryz.lays169 Tryz.Builder_Extra_169 B b l w h h0
def Tryz.lays160_ren:Go.Shelf.Ren:=⟨fun | 160=>45 | 232=>83 | 231=>82 | 227=>84 | 234=>86 | 233=>85 | 236=>88 | 235=>87 | 228=>134 | 271=>137 | 151=>136 | 197=>135 | 120=>175 | 152=>174 | 260=>173 | 137=>204 | 119=>205 | 224=>202 | 225=>201 | 217=>200 | 266=>225 | n=>n,fun | 9=>9 | 4=>4 | 3=>3 | 5=>5 | 117=>122 | 116=>121 | 0=>0 | 124=>125 | 21=>21 | 105=>177 | 46=>152 | 119=>235 | 139=>238 | 138=>237 | n=>n,fun | 3=>2 | 4=>3 | n=>n⟩
theorem Tryz.lays160:Go.Proofs.Lays.n160 Tryz.prog Tryz.lays160_ren:={
  mixed:=by kernel_rfl
  f119:=Tryz.func205.trans (congrArg some (by kernel_rfl))
  f120:=Tryz.func175.trans (congrArg some (by kernel_rfl))
  f137:=Tryz.func204.trans (congrArg some (by kernel_rfl))
  f151:=Tryz.func136.trans (congrArg some (by kernel_rfl))
  f152:=Tryz.func174.trans (congrArg some (by kernel_rfl))
  f160:=Tryz.func45.trans (congrArg some (by kernel_rfl))
  f197:=Tryz.func135.trans (congrArg some (by kernel_rfl))
  f217:=Tryz.func200.trans (congrArg some (by kernel_rfl))
  f224:=Tryz.func202.trans (congrArg some (by kernel_rfl))
  f225:=Tryz.func201.trans (congrArg some (by kernel_rfl))
  f227:=Tryz.func84.trans (congrArg some (by kernel_rfl))
  f228:=Tryz.func134.trans (congrArg some (by kernel_rfl))
  f231:=Tryz.func82.trans (congrArg some (by kernel_rfl))
  f232:=Tryz.func83.trans (congrArg some (by kernel_rfl))
  f233:=Tryz.func85.trans (congrArg some (by kernel_rfl))
  f234:=Tryz.func86.trans (congrArg some (by kernel_rfl))
  f235:=Tryz.func87.trans (congrArg some (by kernel_rfl))
  f236:=Tryz.func88.trans (congrArg some (by kernel_rfl))
  f260:=Tryz.func173.trans (congrArg some (by kernel_rfl))
  f266:=Tryz.func225.trans (congrArg some (by kernel_rfl))
  f271:=Tryz.func137.trans (congrArg some (by kernel_rfl))
  t0:=Tryz.underlying0
  a0:=Tryz.isAgg0
  z0:=Tryz.sizeOf0
  v0:=Tryz.zeroValue0
  t3:=Tryz.underlying3
  a3:=Tryz.isAgg3
  z3:=Tryz.sizeOf3
  v3:=Tryz.zeroValue3
  t4:=Tryz.underlying4
  a4:=Tryz.isAgg4
  z4:=Tryz.sizeOf4
  v4:=Tryz.zeroValue4
  t5:=Tryz.underlying5
  a5:=Tryz.isAgg5
  z5:=Tryz.sizeOf5
  v5:=Tryz.zeroValue5
  t9:=Tryz.underlying9
  a9:=Tryz.isAgg9
  z9:=Tryz.sizeOf9
  v9:=Tryz.zeroValue9
  t21:=Tryz.underlying21
  a21:=Tryz.isAgg21
  z21:=Tryz.sizeOf21
  v21:=Tryz.zeroValue21
  t46:=Tryz.underlying152
  a46:=Tryz.isAgg152
  z46:=Tryz.sizeOf152
  v46:=Tryz.zeroValue152
  t105:=Tryz.underlying177
  a105:=Tryz.isAgg177
  z105:=Tryz.sizeOf177
  v105:=Tryz.zeroValue177
  t116:=Tryz.underlying121
  a116:=Tryz.isAgg121
  z116:=Tryz.sizeOf121
  t117:=Tryz.underlying122
  a117:=Tryz.isAgg122
  z117:=Tryz.sizeOf122
  v117:=Tryz.zeroValue122
  t119:=Tryz.underlying235
  a119:=Tryz.isAgg235
  z119:=Tryz.sizeOf235
  t124:=Tryz.underlying125
  a124:=Tryz.isAgg125
  z124:=Tryz.sizeOf125
  v124:=Tryz.zeroValue125
  t138:=Tryz.underlying237
  a138:=Tryz.isAgg237
  z138:=Tryz.sizeOf237
  v138:=Tryz.zeroValue237
  t139:=Tryz.underlying238
  a139:=Tryz.isAgg238
  z139:=Tryz.sizeOf238
  v139:=Tryz.zeroValue238
  g3:=by kernel_rfl
  g4:=by kernel_rfl }
def Tryz.lays128_ren:Go.Shelf.Ren:=⟨fun | 128=>157 | n=>n,fun | 51=>109 | 3=>3 | 4=>4 | 46=>152 | 5=>5 | 9=>9 | n=>n,fun | n=>n⟩
theorem Tryz.lays128:Go.Proofs.Lays.n128 Tryz.prog Tryz.lays128_ren:={
  mixed:=by kernel_rfl
  f128:=Tryz.func157.trans (congrArg some (by kernel_rfl))
  t3:=Tryz.underlying3
  a3:=Tryz.isAgg3
  z3:=Tryz.sizeOf3
  v3:=Tryz.zeroValue3
  t4:=Tryz.underlying4
  a4:=Tryz.isAgg4
  z4:=Tryz.sizeOf4
  v4:=Tryz.zeroValue4
  t5:=Tryz.underlying5
  a5:=Tryz.isAgg5
  z5:=Tryz.sizeOf5
  v5:=Tryz.zeroValue5
  t9:=Tryz.underlying9
  a9:=Tryz.isAgg9
  z9:=Tryz.sizeOf9
  v9:=Tryz.zeroValue9
  t46:=Tryz.underlying152
  a46:=Tryz.isAgg152
  z46:=Tryz.sizeOf152
  v46:=Tryz.zeroValue152
  t51:=Tryz.underlying109
  a51:=Tryz.isAgg109
  z51:=Tryz.sizeOf109
  v51:=Tryz.zeroValue109 }
theorem Tryz.bits_Len32 (x:Int) (w:World) (h0:0≤x) (h1:x≤4294967295) :
    Calls Tryz.prog 157 #[.int .u32 x] w fun e w'=>e=.returned (.int .i64 (Lib.bitLen x.toNat))∧w'=w:=Any.bits_Len32 Tryz.lays128 x w h0 h1
def Tryz.lays133_ren:Go.Shelf.Ren:=⟨fun | 133=>159 | 128=>157 | n=>n,fun | 51=>109 | 3=>3 | 4=>4 | 46=>152 | 5=>5 | 9=>9 | n=>n,fun | n=>n⟩
theorem Tryz.lays133:Go.Proofs.Lays.n133 Tryz.prog Tryz.lays133_ren:={
  mixed:=by kernel_rfl
  f128:=Tryz.func157.trans (congrArg some (by kernel_rfl))
  f133:=Tryz.func159.trans (congrArg some (by kernel_rfl))
  t3:=Tryz.underlying3
  a3:=Tryz.isAgg3
  z3:=Tryz.sizeOf3
  v3:=Tryz.zeroValue3
  t4:=Tryz.underlying4
  a4:=Tryz.isAgg4
  z4:=Tryz.sizeOf4
  v4:=Tryz.zeroValue4
  t5:=Tryz.underlying5
  a5:=Tryz.isAgg5
  z5:=Tryz.sizeOf5
  v5:=Tryz.zeroValue5
  t9:=Tryz.underlying9
  a9:=Tryz.isAgg9
  z9:=Tryz.sizeOf9
  v9:=Tryz.zeroValue9
  t46:=Tryz.underlying152
  a46:=Tryz.isAgg152
  z46:=Tryz.sizeOf152
  v46:=Tryz.zeroValue152
  t51:=Tryz.underlying109
  a51:=Tryz.isAgg109
  z51:=Tryz.sizeOf109
  v51:=Tryz.zeroValue109 }
theorem Tryz.bits_LeadingZeros32 (x:Int) (w:World) (h0:0≤x) (h1:x≤4294967295) :
    Calls Tryz.prog 159 #[.int .u32 x] w fun e w'=>e=.returned (.int .i64 (32-(Lib.bitLen x.toNat:Int)))∧w'=w:=Any.bits_LeadingZeros32 Tryz.lays133 x w h0 h1
def Tryz.lays103_ren:Go.Shelf.Ren:=⟨fun | 103=>181 | 210=>206 | 206=>80 | n=>n,fun | 9=>9 | 4=>4 | 24=>213 | 3=>3 | n=>n,fun | n=>n⟩
theorem Tryz.lays103:Go.Proofs.Lays.n103 Tryz.prog Tryz.lays103_ren:={
  mixed:=by kernel_rfl
  f103:=Tryz.func181.trans (congrArg some (by kernel_rfl))
  f206:=Tryz.func80.trans (congrArg some (by kernel_rfl))
  f210:=Tryz.func206.trans (congrArg some (by kernel_rfl))
  t3:=Tryz.underlying3
  a3:=Tryz.isAgg3
  z3:=Tryz.sizeOf3
  v3:=Tryz.zeroValue3
  t4:=Tryz.underlying4
  a4:=Tryz.isAgg4
  z4:=Tryz.sizeOf4
  v4:=Tryz.zeroValue4
  t9:=Tryz.underlying9
  a9:=Tryz.isAgg9
  z9:=Tryz.sizeOf9
  v9:=Tryz.zeroValue9
  t24:=Tryz.underlying213
  a24:=Tryz.isAgg213
  z24:=Tryz.sizeOf213
  v24:=Tryz.zeroValue213 }
open Go.RowKit in
theorem Tryz.strings_CutPrefix (s p:ByteArray) (w:World) :
    Calls Tryz.prog 181 #[.string s,.string p] w fun e w'=>e=.returned (.tuple #[.string ⟨(Lib.trimPrefix s.data.toList p.data.toList).toArray⟩,.bool (Lib.hasPrefix s.data.toList p.data.toList)])∧w'=w:=Any.strings_CutPrefix Tryz.lays103 s p w
def Tryz.lays283_ren:Go.Shelf.Ren:=⟨fun | 283=>192 | n=>n,fun | 3=>3 | 9=>9 | 4=>4 | n=>n,fun | n=>n⟩
theorem Tryz.lays283:Go.Proofs.Lays.n283 Tryz.prog Tryz.lays283_ren:={
  mixed:=by kernel_rfl
  f283:=Tryz.func192.trans (congrArg some (by kernel_rfl))
  t3:=Tryz.underlying3
  a3:=Tryz.isAgg3
  z3:=Tryz.sizeOf3
  v3:=Tryz.zeroValue3
  t4:=Tryz.underlying4
  a4:=Tryz.isAgg4
  z4:=Tryz.sizeOf4
  v4:=Tryz.zeroValue4
  t9:=Tryz.underlying9
  a9:=Tryz.isAgg9
  z9:=Tryz.sizeOf9
  v9:=Tryz.zeroValue9 }
open Go.Lib in
theorem Tryz.internal_strconv_small (i:Nat) (h:i<100) (w:World) :
    Calls Tryz.prog 192 #[.int .i64 i] w fun e w'=>e=.returned (.string ⟨(Lib.decDigits i).toArray⟩)∧w'=w:=Any.internal_strconv_small Tryz.lays283 i h w
def Tryz.laysM284_ren:Go.Shelf.Ren:=⟨fun | 284=>193 | 129=>220 | 317=>219 | 318=>221 | n=>n,fun | 53=>128 | 3=>3 | 212=>251 | 0=>0 | 4=>4 | 46=>152 | 5=>5 | 9=>9 | n=>n,fun | 17=>4 | n=>n⟩
theorem Tryz.laysM284:Go.Proofs.LaysM.n284 Tryz.prog Tryz.laysM284_ren:={
  mixed:=by kernel_rfl
  f129:=Tryz.func220.trans (congrArg some (by kernel_rfl))
  f284:=Tryz.func193.trans (congrArg some (by kernel_rfl))
  f317:=Tryz.func219.trans (congrArg some (by kernel_rfl))
  f318:=Tryz.func221.trans (congrArg some (by kernel_rfl))
  t0:=Tryz.underlying0
  a0:=Tryz.isAgg0
  z0:=Tryz.sizeOf0
  v0:=Tryz.zeroValue0
  t3:=Tryz.underlying3
  a3:=Tryz.isAgg3
  z3:=Tryz.sizeOf3
  v3:=Tryz.zeroValue3
  t4:=Tryz.underlying4
  a4:=Tryz.isAgg4
  z4:=Tryz.sizeOf4
  v4:=Tryz.zeroValue4
  t5:=Tryz.underlying5
  a5:=Tryz.isAgg5
  z5:=Tryz.sizeOf5
  v5:=Tryz.zeroValue5
  t9:=Tryz.underlying9
  a9:=Tryz.isAgg9
  z9:=Tryz.sizeOf9
  v9:=Tryz.zeroValue9
  t46:=Tryz.underlying152
  a46:=Tryz.isAgg152
  z46:=Tryz.sizeOf152
  v46:=Tryz.zeroValue152
  t53:=Tryz.underlying128
  a53:=Tryz.isAgg128
  z53:=Tryz.sizeOf128
  v53:=Tryz.zeroValue128
  t212:=Tryz.underlying251
  a212:=Tryz.isAgg251
  z212:=Tryz.sizeOf251
  v212:=Tryz.zeroValue251
  g17:=by kernel_rfl
  i0:=by kernel_rfl
  i3:=by kernel_rfl
  i4:=by kernel_rfl
  i5:=by kernel_rfl
  i9:=by kernel_rfl
  i46:=by kernel_rfl
  i53:=by kernel_rfl
  i212:=by kernel_rfl
  m17:=by kernel_rfl }
open Go.Lib in
theorem Tryz.internal_strconv_numDigits (u:Nat) (h1:1≤u) (h2:u<18446744073709551616) (w:World) (htab:Lib.TabIs Tryz.prog w "internal/strconv.uint64pow10" .u64 Lib.pow10Tab) :
    Calls Tryz.prog 193 #[.int .u64 u] w fun e w'=>e=.returned (.int .i64 (Lib.nDigits u))∧w'=w:=Any.internal_strconv_numDigits Tryz.laysM284 u h1 h2 w htab
def Tryz.lays285_ren:Go.Shelf.Ren:=⟨fun | 285=>194 | n=>n,fun | 37=>165 | 53=>128 | 3=>3 | 4=>4 | 51=>109 | 9=>9 | 5=>5 | 0=>0 | n=>n,fun | n=>n⟩
theorem Tryz.lays285:Go.Proofs.Lays.n285 Tryz.prog Tryz.lays285_ren:={
  mixed:=by kernel_rfl
  f285:=Tryz.func194.trans (congrArg some (by kernel_rfl))
  t0:=Tryz.underlying0
  a0:=Tryz.isAgg0
  z0:=Tryz.sizeOf0
  v0:=Tryz.zeroValue0
  t3:=Tryz.underlying3
  a3:=Tryz.isAgg3
  z3:=Tryz.sizeOf3
  v3:=Tryz.zeroValue3
  t4:=Tryz.underlying4
  a4:=Tryz.isAgg4
  z4:=Tryz.sizeOf4
  v4:=Tryz.zeroValue4
  t5:=Tryz.underlying5
  a5:=Tryz.isAgg5
  z5:=Tryz.sizeOf5
  v5:=Tryz.zeroValue5
  t9:=Tryz.underlying9
  a9:=Tryz.isAgg9
  z9:=Tryz.sizeOf9
  v9:=Tryz.zeroValue9
  t37:=Tryz.underlying165
  a37:=Tryz.isAgg165
  z37:=Tryz.sizeOf165
  v37:=Tryz.zeroValue165
  t51:=Tryz.underlying109
  a51:=Tryz.isAgg109
  z51:=Tryz.sizeOf109
  v51:=Tryz.zeroValue109
  t53:=Tryz.underlying128
  a53:=Tryz.isAgg128
  z53:=Tryz.sizeOf128
  v53:=Tryz.zeroValue128 }
open Go.RowKit Go.Sort Go.Lib in
theorem Tryz.internal_strconv_formatBase10 (blk off cap:Nat) (u:Nat) (d:Array UInt8) (w:World) (hH:Holds (fun (b:UInt8)=>Value.int .u8 (b.toNat:Int)) w blk off d) (hu:u<10^d.size) (hu64:u<18446744073709551616) (hsz:d.size<4611686018427387904) :
    Calls Tryz.prog 194 #[.slice (some ⟨blk,off,none⟩) d.size cap,.int .u64 u] w fun e w' =>
      e=.returned (.tuple #[])∧∃ (n v':Nat) (dk:Array UInt8),w'=(putRow (fun (b:UInt8)=>Value.int .u8 (b.toNat:Int)) w blk off dk).drewN n∧FmtInv d.size u 0 v' dk:=Any.internal_strconv_formatBase10 Tryz.lays285 blk off cap u d w hH hu hu64 hsz
def Tryz.lays145_ren:Go.Shelf.Ren:=⟨fun | 145=>182 | 220=>207 | 219=>172 | 217=>200 | 225=>201 | 224=>202 | 267=>203 | 266=>225 | 314=>226 | n=>n,fun | 9=>9 | 4=>4 | 59=>215 | 3=>3 | 5=>5 | 46=>152 | 146=>231 | 51=>109 | n=>n,fun | 1=>1 | n=>n⟩
theorem Tryz.lays145:Go.Proofs.Lays.n145 Tryz.prog Tryz.lays145_ren:={
  mixed:=by kernel_rfl
  f145:=Tryz.func182.trans (congrArg some (by kernel_rfl))
  f217:=Tryz.func200.trans (congrArg some (by kernel_rfl))
  f219:=Tryz.func172.trans (congrArg some (by kernel_rfl))
  f220:=Tryz.func207.trans (congrArg some (by kernel_rfl))
  f224:=Tryz.func202.trans (congrArg some (by kernel_rfl))
  f225:=Tryz.func201.trans (congrArg some (by kernel_rfl))
  f266:=Tryz.func225.trans (congrArg some (by kernel_rfl))
  f267:=Tryz.func203.trans (congrArg some (by kernel_rfl))
  f314:=Tryz.func226.trans (congrArg some (by kernel_rfl))
  t3:=Tryz.underlying3
  a3:=Tryz.isAgg3
  z3:=Tryz.sizeOf3
  v3:=Tryz.zeroValue3
  t4:=Tryz.underlying4
  a4:=Tryz.isAgg4
  z4:=Tryz.sizeOf4
  v4:=Tryz.zeroValue4
  t5:=Tryz.underlying5
  a5:=Tryz.isAgg5
  z5:=Tryz.sizeOf5
  v5:=Tryz.zeroValue5
  t9:=Tryz.underlying9
  a9:=Tryz.isAgg9
  z9:=Tryz.sizeOf9
  v9:=Tryz.zeroValue9
  t46:=Tryz.underlying152
  a46:=Tryz.isAgg152
  z46:=Tryz.sizeOf152
  v46:=Tryz.zeroValue152
  t51:=Tryz.underlying109
  a51:=Tryz.isAgg109
  z51:=Tryz.sizeOf109
  v51:=Tryz.zeroValue109
  t59:=Tryz.underlying215
  a59:=Tryz.isAgg215
  z59:=Tryz.sizeOf215
  v59:=Tryz.zeroValue215
  t146:=Tryz.underlying231
  a146:=Tryz.isAgg231
  z146:=Tryz.sizeOf231
  v146:=Tryz.zeroValue231
  g1:=by kernel_rfl }
open Go.RowKit Go.Lib in
theorem Tryz.strings_Cut (s sep:ByteArray) (m:Int) (w:World) (hs:s.size<4294967281) (hm:w.cell? ⟨1,0,none⟩=some (.int .i64 m)) :
    Calls Tryz.prog 182 #[.string s,.string sep] w fun e w'=>e=.returned (.tuple #[.string ⟨(Lib.cut s.data.toList sep.data.toList).1.toArray⟩,.string ⟨(Lib.cut s.data.toList sep.data.toList).2.1.toArray⟩,.bool (Lib.cut s.data.toList sep.data.toList).2.2])∧∃ n,w'=w.drewN n:=Any.strings_Cut Tryz.lays145 s sep m w hs hm
def Tryz.laysM145_ren:Go.Shelf.Ren:=⟨fun | 145=>182 | 220=>207 | 219=>172 | 217=>200 | 225=>201 | 224=>202 | 267=>203 | 266=>225 | 314=>226 | n=>n,fun | 9=>9 | 4=>4 | 59=>215 | 3=>3 | 5=>5 | 46=>152 | 146=>231 | 51=>109 | n=>n,fun | 1=>1 | n=>n⟩
theorem Tryz.laysM145:Go.Proofs.LaysM.n145 Tryz.prog Tryz.laysM145_ren:={
  mixed:=by kernel_rfl
  f145:=Tryz.func182.trans (congrArg some (by kernel_rfl))
  f217:=Tryz.func200.trans (congrArg some (by kernel_rfl))
  f219:=Tryz.func172.trans (congrArg some (by kernel_rfl))
  f220:=Tryz.func207.trans (congrArg some (by kernel_rfl))
  f224:=Tryz.func202.trans (congrArg some (by kernel_rfl))
  f225:=Tryz.func201.trans (congrArg some (by kernel_rfl))
  f266:=Tryz.func225.trans (congrArg some (by kernel_rfl))
  f267:=Tryz.func203.trans (congrArg some (by kernel_rfl))
  f314:=Tryz.func226.trans (congrArg some (by kernel_rfl))
  t3:=Tryz.underlying3
  a3:=Tryz.isAgg3
  z3:=Tryz.sizeOf3
  v3:=Tryz.zeroValue3
  t4:=Tryz.underlying4
  a4:=Tryz.isAgg4
  z4:=Tryz.sizeOf4
  v4:=Tryz.zeroValue4
  t5:=Tryz.underlying5
  a5:=Tryz.isAgg5
  z5:=Tryz.sizeOf5
  v5:=Tryz.zeroValue5
  t9:=Tryz.underlying9
  a9:=Tryz.isAgg9
  z9:=Tryz.sizeOf9
  v9:=Tryz.zeroValue9
  t46:=Tryz.underlying152
  a46:=Tryz.isAgg152
  z46:=Tryz.sizeOf152
  v46:=Tryz.zeroValue152
  t51:=Tryz.underlying109
  a51:=Tryz.isAgg109
  z51:=Tryz.sizeOf109
  v51:=Tryz.zeroValue109
  t59:=Tryz.underlying215
  a59:=Tryz.isAgg215
  z59:=Tryz.sizeOf215
  v59:=Tryz.zeroValue215
  t146:=Tryz.underlying231
  a146:=Tryz.isAgg231
  z146:=Tryz.sizeOf231
  v146:=Tryz.zeroValue231
  g1:=by kernel_rfl
  i3:=by kernel_rfl
  i4:=by kernel_rfl
  i5:=by kernel_rfl
  i9:=by kernel_rfl
  i46:=by kernel_rfl
  i51:=by kernel_rfl
  i59:=by kernel_rfl
  i146:=by kernel_rfl
  m1:=by kernel_rfl
  s1_3:=fun w h=>Go.Proofs.cell_of_shapedOpen_int (zero:=#[.int .i64 0]) (t:=3) h (of_decide_eq_true (by kernel_rfl)) (by kernel_rfl) rfl (by kernel_rfl) (by kernel_rfl) Tryz.underlying3 }
def Tryz.lays99_ren:Go.Shelf.Ren:=⟨fun | 99=>42 | 206=>80 | n=>n,fun | 9=>9 | 4=>4 | 3=>3 | n=>n,fun | n=>n⟩
theorem Tryz.lays99:Go.Proofs.Lays.n99 Tryz.prog Tryz.lays99_ren:={
  mixed:=by kernel_rfl
  f99:=Tryz.func42.trans (congrArg some (by kernel_rfl))
  f206:=Tryz.func80.trans (congrArg some (by kernel_rfl))
  t3:=Tryz.underlying3
  a3:=Tryz.isAgg3
  z3:=Tryz.sizeOf3
  v3:=Tryz.zeroValue3
  t4:=Tryz.underlying4
  a4:=Tryz.isAgg4
  z4:=Tryz.sizeOf4
  v4:=Tryz.zeroValue4
  t9:=Tryz.underlying9
  a9:=Tryz.isAgg9
  z9:=Tryz.sizeOf9
  v9:=Tryz.zeroValue9 }
open Go.RowKit Go.Lib in
theorem Tryz.strings_HasPrefix (s p:ByteArray) (w:World) :
    Calls Tryz.prog 42 #[.string s,.string p] w fun e w'=>e=.returned (.bool (Lib.hasPrefix s.data.toList p.data.toList))∧w'=w:=Any.strings_HasPrefix Tryz.lays99 s p w
def Tryz.lays147_ren:Go.Shelf.Ren:=⟨fun | 147=>43 | 221=>81 | 268=>131 | 138=>132 | 143=>133 | 195=>170 | 197=>135 | 218=>171 | 219=>172 | 260=>173 | 217=>200 | 225=>201 | 224=>202 | 267=>203 | 266=>225 | 314=>226 | n=>n,fun | 9=>9 | 3=>3 | 31=>89 | 4=>4 | 0=>0 | 105=>177 | 21=>21 | 5=>5 | 46=>152 | 119=>235 | 139=>238 | 138=>237 | 146=>231 | 51=>109 | n=>n,fun | 1=>1 | 3=>2 | 4=>3 | n=>n⟩
theorem Tryz.lays147:Go.Proofs.Lays.n147 Tryz.prog Tryz.lays147_ren:={
  mixed:=by kernel_rfl
  f138:=Tryz.func132.trans (congrArg some (by kernel_rfl))
  f143:=Tryz.func133.trans (congrArg some (by kernel_rfl))
  f147:=Tryz.func43.trans (congrArg some (by kernel_rfl))
  f195:=Tryz.func170.trans (congrArg some (by kernel_rfl))
  f197:=Tryz.func135.trans (congrArg some (by kernel_rfl))
  f217:=Tryz.func200.trans (congrArg some (by kernel_rfl))
  f218:=Tryz.func171.trans (congrArg some (by kernel_rfl))
  f219:=Tryz.func172.trans (congrArg some (by kernel_rfl))
  f221:=Tryz.func81.trans (congrArg some (by kernel_rfl))
  f224:=Tryz.func202.trans (congrArg some (by kernel_rfl))
  f225:=Tryz.func201.trans (congrArg some (by kernel_rfl))
  f260:=Tryz.func173.trans (congrArg some (by kernel_rfl))
  f266:=Tryz.func225.trans (congrArg some (by kernel_rfl))
  f267:=Tryz.func203.trans (congrArg some (by kernel_rfl))
  f268:=Tryz.func131.trans (congrArg some (by kernel_rfl))
  f314:=Tryz.func226.trans (congrArg some (by kernel_rfl))
  t0:=Tryz.underlying0
  a0:=Tryz.isAgg0
  z0:=Tryz.sizeOf0
  v0:=Tryz.zeroValue0
  t3:=Tryz.underlying3
  a3:=Tryz.isAgg3
  z3:=Tryz.sizeOf3
  v3:=Tryz.zeroValue3
  t4:=Tryz.underlying4
  a4:=Tryz.isAgg4
  z4:=Tryz.sizeOf4
  v4:=Tryz.zeroValue4
  t5:=Tryz.underlying5
  a5:=Tryz.isAgg5
  z5:=Tryz.sizeOf5
  v5:=Tryz.zeroValue5
  t9:=Tryz.underlying9
  a9:=Tryz.isAgg9
  z9:=Tryz.sizeOf9
  v9:=Tryz.zeroValue9
  t21:=Tryz.underlying21
  a21:=Tryz.isAgg21
  z21:=Tryz.sizeOf21
  v21:=Tryz.zeroValue21
  t31:=Tryz.underlying89
  a31:=Tryz.isAgg89
  z31:=Tryz.sizeOf89
  v31:=Tryz.zeroValue89
  t46:=Tryz.underlying152
  a46:=Tryz.isAgg152
  z46:=Tryz.sizeOf152
  v46:=Tryz.zeroValue152
  t51:=Tryz.underlying109
  a51:=Tryz.isAgg109
  z51:=Tryz.sizeOf109
  v51:=Tryz.zeroValue109
  t105:=Tryz.underlying177
  a105:=Tryz.isAgg177
  z105:=Tryz.sizeOf177
  v105:=Tryz.zeroValue177
  t119:=Tryz.underlying235
  a119:=Tryz.isAgg235
  z119:=Tryz.sizeOf235
  t138:=Tryz.underlying237
  a138:=Tryz.isAgg237
  z138:=Tryz.sizeOf237
  v138:=Tryz.zeroValue237
  t139:=Tryz.underlying238
  a139:=Tryz.isAgg238
  z139:=Tryz.sizeOf238
  v139:=Tryz.zeroValue238
  t146:=Tryz.underlying231
  a146:=Tryz.isAgg231
  z146:=Tryz.sizeOf231
  v146:=Tryz.zeroValue231
  g1:=by kernel_rfl
  g3:=by kernel_rfl
  g4:=by kernel_rfl }
open Go.RowKit Go.Lib in
theorem Tryz.strings_SplitN (s sep:ByteArray) (n:Nat) (m:Int) (w:World) (hs:s.size<4294967281) (hm:w.cell? ⟨1,0,none⟩=some (.int .i64 m)) (h1:1≤sep.size) (hn:1≤n) (hn63:n≤9223372036854775807) :
    Calls Tryz.prog 43 #[.string s,.string sep,.int .i64 n] w fun e w' =>
      e=.returned (.slice (some ⟨w.heap.size,0,none⟩) (Lib.splitB sep 0 (min n (s.size+1)-1) s).length (min n (s.size+1)))∧w'=w.alloc (.cells (Lib.cellsOf (Lib.splitB sep 0 (min n (s.size+1)-1) s) (min n (s.size+1))) 9):=Any.strings_SplitN Tryz.lays147 (by kernel_rfl) s sep n m w hs hm h1 hn hn63
def Tryz.lays212_ren:Go.Shelf.Ren:=⟨fun | 212=>167 | 263=>197 | 264=>198 | n=>n,fun | 46=>152 | 51=>109 | 146=>231 | 53=>128 | 148=>233 | n=>n,fun | n=>n⟩
theorem Tryz.lays212:Go.Proofs.Lays.n212 Tryz.prog Tryz.lays212_ren:={
  mixed:=by kernel_rfl
  f212:=Tryz.func167.trans (congrArg some (by kernel_rfl))
  f263:=Tryz.func197.trans (congrArg some (by kernel_rfl))
  f264:=Tryz.func198.trans (congrArg some (by kernel_rfl))
  t46:=Tryz.underlying152
  a46:=Tryz.isAgg152
  z46:=Tryz.sizeOf152
  v46:=Tryz.zeroValue152
  t51:=Tryz.underlying109
  a51:=Tryz.isAgg109
  z51:=Tryz.sizeOf109
  v51:=Tryz.zeroValue109
  t53:=Tryz.underlying128
  a53:=Tryz.isAgg128
  z53:=Tryz.sizeOf128
  v53:=Tryz.zeroValue128
  t146:=Tryz.underlying231
  a146:=Tryz.isAgg231
  z146:=Tryz.sizeOf231
  v146:=Tryz.zeroValue231
  t148:=Tryz.underlying233
  a148:=Tryz.isAgg233
  z148:=Tryz.sizeOf233
  v148:=Tryz.zeroValue233 }
open Go.RowKit Go.Lib in
theorem Tryz.bits_Mul (x y:Nat) (hx:x<18446744073709551616) (hy:y<18446744073709551616) (w:World) :
    Calls Tryz.prog 167 #[.int .u64 x,.int .u64 y] w fun e w'=>e=.returned (.tuple #[.int .u64 ((x*y / 18446744073709551616:Nat):Int),.int .u64 ((x*y % 18446744073709551616:Nat):Int)])∧w'=w:=Any.bits_Mul Tryz.lays212 x y hx hy w
def Tryz.lays105_ren:Go.Shelf.Ren:=⟨fun | 105=>127 | 212=>167 | 99=>42 | 165=>168 | 166=>126 | 170=>169 | 169=>128 | 263=>197 | 264=>198 | 206=>80 | 240=>166 | 241=>199 | 276=>196 | 277=>224 | n=>n,fun | 9=>9 | 3=>3 | 4=>4 | 20=>20 | 0=>0 | 46=>152 | 109=>201 | 5=>5 | 72=>167 | 76=>171 | 51=>109 | 146=>231 | 53=>128 | 148=>233 | 70=>164 | 37=>165 | 75=>170 | 127=>204 | 164=>229 | 80=>111 | n=>n,fun | n=>n⟩
theorem Tryz.lays105:Go.Proofs.Lays.n105 Tryz.prog Tryz.lays105_ren:={
  mixed:=by kernel_rfl
  f99:=Tryz.func42.trans (congrArg some (by kernel_rfl))
  f105:=Tryz.func127.trans (congrArg some (by kernel_rfl))
  f165:=Tryz.func168.trans (congrArg some (by kernel_rfl))
  f166:=Tryz.func126.trans (congrArg some (by kernel_rfl))
  f169:=Tryz.func128.trans (congrArg some (by kernel_rfl))
  f170:=Tryz.func169.trans (congrArg some (by kernel_rfl))
  f206:=Tryz.func80.trans (congrArg some (by kernel_rfl))
  f212:=Tryz.func167.trans (congrArg some (by kernel_rfl))
  f240:=Tryz.func166.trans (congrArg some (by kernel_rfl))
  f241:=Tryz.func199.trans (congrArg some (by kernel_rfl))
  f263:=Tryz.func197.trans (congrArg some (by kernel_rfl))
  f264:=Tryz.func198.trans (congrArg some (by kernel_rfl))
  f276:=Tryz.func196.trans (congrArg some (by kernel_rfl))
  f277:=Tryz.func224.trans (congrArg some (by kernel_rfl))
  t0:=Tryz.underlying0
  a0:=Tryz.isAgg0
  z0:=Tryz.sizeOf0
  v0:=Tryz.zeroValue0
  t3:=Tryz.underlying3
  a3:=Tryz.isAgg3
  z3:=Tryz.sizeOf3
  v3:=Tryz.zeroValue3
  t4:=Tryz.underlying4
  a4:=Tryz.isAgg4
  z4:=Tryz.sizeOf4
  v4:=Tryz.zeroValue4
  t5:=Tryz.underlying5
  a5:=Tryz.isAgg5
  z5:=Tryz.sizeOf5
  v5:=Tryz.zeroValue5
  t9:=Tryz.underlying9
  a9:=Tryz.isAgg9
  z9:=Tryz.sizeOf9
  v9:=Tryz.zeroValue9
  t20:=Tryz.underlying20
  a20:=Tryz.isAgg20
  z20:=Tryz.sizeOf20
  v20:=Tryz.zeroValue20
  t37:=Tryz.underlying165
  a37:=Tryz.isAgg165
  z37:=Tryz.sizeOf165
  v37:=Tryz.zeroValue165
  t46:=Tryz.underlying152
  a46:=Tryz.isAgg152
  z46:=Tryz.sizeOf152
  v46:=Tryz.zeroValue152
  t51:=Tryz.underlying109
  a51:=Tryz.isAgg109
  z51:=Tryz.sizeOf109
  v51:=Tryz.zeroValue109
  t53:=Tryz.underlying128
  a53:=Tryz.isAgg128
  z53:=Tryz.sizeOf128
  v53:=Tryz.zeroValue128
  t70:=Tryz.underlying164
  a70:=Tryz.isAgg164
  z70:=Tryz.sizeOf164
  v70:=Tryz.zeroValue164
  t72:=Tryz.underlying167
  a72:=Tryz.isAgg167
  z72:=Tryz.sizeOf167
  v72:=Tryz.zeroValue167
  t75:=Tryz.underlying170
  a75:=Tryz.isAgg170
  z75:=Tryz.sizeOf170
  v75:=Tryz.zeroValue170
  t76:=Tryz.underlying171
  a76:=Tryz.isAgg171
  z76:=Tryz.sizeOf171
  v76:=Tryz.zeroValue171
  t109:=Tryz.underlying201
  a109:=Tryz.isAgg201
  z109:=Tryz.sizeOf201
  v109:=Tryz.zeroValue201
  t127:=Tryz.underlying204
  a127:=Tryz.isAgg204
  z127:=Tryz.sizeOf204
  v127:=Tryz.zeroValue204
  t146:=Tryz.underlying231
  a146:=Tryz.isAgg231
  z146:=Tryz.sizeOf231
  v146:=Tryz.zeroValue231
  t148:=Tryz.underlying233
  a148:=Tryz.isAgg233
  z148:=Tryz.sizeOf233
  v148:=Tryz.zeroValue233
  t164:=Tryz.underlying229
  a164:=Tryz.isAgg229
  z164:=Tryz.sizeOf229
  v164:=Tryz.zeroValue229 }
theorem Tryz.Builder_Extra_105:Builder.Extra Tryz.prog Tryz.lays105_ren:={
  sizeBuilder:=by kernel_rfl
  liesBuilder:=by kernel_rfl
  t5:=Tryz.underlying5
  a5:=Tryz.isAgg5
  z5:=Tryz.sizeOf5
  v5:=Tryz.zeroValue5
  infoByte:=by kernel_rfl
  cellsByte:=by kernel_rfl
  sizeByte:=by kernel_rfl
  neB5:=by decide }
open Go.RowKit Go.Lib in
theorem Tryz.strings_Repeat (s:ByteArray) (c:Nat) (w:World) (hc:c≤9223372036854775807) (hlen:s.size*c≤140737488355328) :
    Calls Tryz.prog 127 #[.string s,.int .i64 c] w fun e w'=>e=.returned (.string ⟨(Lib.repeatL s.data.toList c).toArray⟩)∧Below w.heap.size w w':=Any.strings_Repeat Tryz.lays105 Tryz.Builder_Extra_105 s c w hc hlen
end Go.Proofs
