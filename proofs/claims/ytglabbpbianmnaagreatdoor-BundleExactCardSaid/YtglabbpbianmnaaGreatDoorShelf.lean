import Derived.Shelf.Small.Utf8
import Derived.Shelf.Small.Strs
import Derived.Shelf.Utf8.RuneCount
import Derived.Shelf.Strconv.Atoi
import Derived.Shelf.Strconv.Itoa0
import Derived.Shelf.Strconv.Itoa1
import Derived.Shelf.LaysM
import Derived.Shelf.Strconv.Itoa2
import Derived.Shelf.Strconv.Itoa3
import Derived.Shelf.Strconv.AtoiErrFast
import Derived.Shelf.Strconv.ParseIntEmpty
import Derived.Shelf.Strconv.AtoiFail
import Derived.Shelf.Strconv.Clone
import Derived.Shelf.Strconv.SyntaxError
import Derived.Shelf.LaysC
import Derived.Shelf.Strconv.ToError
import Derived.Shelf.Strconv.AtoiErr
import Derived.Shelf.Strings.Search1
import Derived.Shelf.Strings.Search2
import Derived.Shelf.Strings.Search3
import Derived.Shelf.Strings.Cut
import Derived.Shelf.Strings.Count
import Derived.Shelf.Strings.Shaped
import Derived.Shelf.Strings.Prefix
import Derived.Shelf.Strings.Split
import Derived.Shelf.Strings.SplitShaped
import Derived.Shelf.Unicode.Decode
import Derived.Shelf.Strings.RuneCount
import Derived.Shelf.Strings.Explode
import Derived.Shelf.Unicode.DecodeSlow
import Derived.Shelf.Unicode.DecodeAny
import Derived.Shelf.Bytes.SlIndexSmall
import Derived.Shelf.Bytes.SlIndexAt
import Derived.Shelf.Bytes.SlSearch0
import Derived.Shelf.Bytes.SlSearch1
import Derived.Shelf.Bytes.SlSearch2
import Derived.Shelf.Bytes.SlIndexWhole
import Derived.Shelf.Bytes.SlSmallAll
import Derived.Ground.SlbtProg
import Derived.Shelf.Bytes.SlCut
import Derived.Shelf.Bytes.Small
import Derived.Shelf.Bytes.IndexByte
import Derived.Test.YtglabbpbianmnaaGreatDoorProg
namespace Go.Proofs
open Tryz
open Go.Shelf
def Tryz.lays137_ren : Go.Shelf.Ren := ⟨fun | 137 => 139 | 217 => 144 | 266 => 128 | n => n,fun | 9 => 9 | 5 => 5 | 3 => 3 | n => n,fun | n => n⟩
theorem Tryz.lays137 : Go.Proofs.Lays.n137 Tryz.prog Tryz.lays137_ren := {
 mixed := by kernel_rfl
 f137 := func139.trans (congrArg some (by kernel_rfl))
 f217 := func144.trans (congrArg some (by kernel_rfl))
 f266 := func128.trans (congrArg some (by kernel_rfl))
 t3 := underlying3
 a3 := isAgg3
 z3 := sizeOf3
 v3 := zeroValue3
 t5 := underlying5
 a5 := isAgg5
 z5 := sizeOf5
 v5 := zeroValue5
 t9 := underlying9
 a9 := isAgg9
 z9 := sizeOf9
 v9 := zeroValue9 }
open Go.RowKit in
theorem Tryz.strings_IndexByte (s : ByteArray) (c : Int) (w : World) :
 Calls Tryz.prog 139 #[.string s,.int .u8 c] w fun e w' => e = .returned (.int .i64 (Lib.indexByte s.data.toList c.toNat.toUInt8)) ∧ w' = w := Any.strings_IndexByte Tryz.lays137 s c w
def Tryz.lays172_ren : Go.Shelf.Ren := ⟨fun | 172 => 78 | 244 => 99 | 245 => 100 | 247 => 120 | 279 => 121 | 280 => 122 | 281 => 123 | 282 => 124 | 287 => 146 | 316 => 147 | 171 => 32 | 205 => 148 | 321 => 157 | 322 => 158 | 243 => 53 | 246 => 72 | 283 => 90 | 284 => 91 | 285 => 92 | 286 => 93 | 129 => 112 | 317 => 111 | 318 => 113 | 319 => 114 | 320 => 115 | 337 => 141 | 338 => 142 | n => n,fun | 9 => 9 | 3 => 3 | 75 => 116 | 76 => 117 | 4 => 4 | 5 => 5 | 167 => 151 | 37 => 25 | 0 => 0 | 85 => 152 | 2 => 2 | 168 => 154 | 53 => 127 | 175 => 170 | 46 => 51 | 210 => 174 | 127 => 189 | 145 => 192 | 143 => 190 | 21 => 21 | 171 => 126 | 173 => 130 | 212 => 144 | 51 => 86 | 20 => 20 | 213 => 145 | 232 => 181 | 233 => 182 | 80 => 193 | n => n,fun | 15 => 2 | 16 => 3 | 17 => 1 | 18 => 4 | 19 => 5 | n => n⟩
theorem Tryz.lays172 : Go.Proofs.Lays.n172 Tryz.prog Tryz.lays172_ren := {
 mixed := by kernel_rfl
 f129 := func112.trans (congrArg some (by kernel_rfl))
 f171 := func32.trans (congrArg some (by kernel_rfl))
 f172 := func78.trans (congrArg some (by kernel_rfl))
 f205 := func148.trans (congrArg some (by kernel_rfl))
 f243 := func53.trans (congrArg some (by kernel_rfl))
 f244 := func99.trans (congrArg some (by kernel_rfl))
 f245 := func100.trans (congrArg some (by kernel_rfl))
 f246 := func72.trans (congrArg some (by kernel_rfl))
 f247 := func120.trans (congrArg some (by kernel_rfl))
 f279 := func121.trans (congrArg some (by kernel_rfl))
 f280 := func122.trans (congrArg some (by kernel_rfl))
 f281 := func123.trans (congrArg some (by kernel_rfl))
 f282 := func124.trans (congrArg some (by kernel_rfl))
 f283 := func90.trans (congrArg some (by kernel_rfl))
 f284 := func91.trans (congrArg some (by kernel_rfl))
 f285 := func92.trans (congrArg some (by kernel_rfl))
 f286 := func93.trans (congrArg some (by kernel_rfl))
 f287 := func146.trans (congrArg some (by kernel_rfl))
 f316 := func147.trans (congrArg some (by kernel_rfl))
 f317 := func111.trans (congrArg some (by kernel_rfl))
 f318 := func113.trans (congrArg some (by kernel_rfl))
 f319 := func114.trans (congrArg some (by kernel_rfl))
 f320 := func115.trans (congrArg some (by kernel_rfl))
 f321 := func157.trans (congrArg some (by kernel_rfl))
 f322 := func158.trans (congrArg some (by kernel_rfl))
 f337 := func141.trans (congrArg some (by kernel_rfl))
 f338 := func142.trans (congrArg some (by kernel_rfl))
 t0 := underlying0
 a0 := isAgg0
 z0 := sizeOf0
 v0 := zeroValue0
 t2 := underlying2
 a2 := isAgg2
 z2 := sizeOf2
 v2 := zeroValue2
 t3 := underlying3
 a3 := isAgg3
 z3 := sizeOf3
 v3 := zeroValue3
 t4 := underlying4
 a4 := isAgg4
 z4 := sizeOf4
 v4 := zeroValue4
 t5 := underlying5
 a5 := isAgg5
 z5 := sizeOf5
 v5 := zeroValue5
 t9 := underlying9
 a9 := isAgg9
 z9 := sizeOf9
 v9 := zeroValue9
 t20 := underlying20
 a20 := isAgg20
 z20 := sizeOf20
 v20 := zeroValue20
 t21 := underlying21
 a21 := isAgg21
 z21 := sizeOf21
 v21 := zeroValue21
 t37 := underlying25
 a37 := isAgg25
 z37 := sizeOf25
 v37 := zeroValue25
 t46 := underlying51
 a46 := isAgg51
 z46 := sizeOf51
 v46 := zeroValue51
 t51 := underlying86
 a51 := isAgg86
 z51 := sizeOf86
 v51 := zeroValue86
 t53 := underlying127
 a53 := isAgg127
 z53 := sizeOf127
 v53 := zeroValue127
 t75 := underlying116
 a75 := isAgg116
 z75 := sizeOf116
 v75 := zeroValue116
 t76 := underlying117
 a76 := isAgg117
 z76 := sizeOf117
 v76 := zeroValue117
 t85 := underlying152
 a85 := isAgg152
 z85 := sizeOf152
 v85 := zeroValue152
 t127 := underlying189
 a127 := isAgg189
 z127 := sizeOf189
 v127 := zeroValue189
 t143 := underlying190
 a143 := isAgg190
 z143 := sizeOf190
 v143 := zeroValue190
 t145 := underlying192
 a145 := isAgg192
 z145 := sizeOf192
 v145 := zeroValue192
 t167 := underlying151
 a167 := isAgg151
 z167 := sizeOf151
 v167 := zeroValue151
 t168 := underlying154
 a168 := isAgg154
 z168 := sizeOf154
 v168 := zeroValue154
 t171 := underlying126
 a171 := isAgg126
 z171 := sizeOf126
 v171 := zeroValue126
 t173 := underlying130
 a173 := isAgg130
 z173 := sizeOf130
 v173 := zeroValue130
 t175 := underlying170
 a175 := isAgg170
 z175 := sizeOf170
 v175 := zeroValue170
 t210 := underlying174
 a210 := isAgg174
 z210 := sizeOf174
 v210 := zeroValue174
 t212 := underlying144
 a212 := isAgg144
 z212 := sizeOf144
 v212 := zeroValue144
 t213 := underlying145
 a213 := isAgg145
 z213 := sizeOf145
 t232 := underlying181
 a232 := isAgg181
 z232 := sizeOf181
 v232 := zeroValue181
 t233 := underlying182
 a233 := isAgg182
 z233 := sizeOf182
 v233 := zeroValue182
 g15 := by kernel_rfl
 g16 := by kernel_rfl
 g17 := by kernel_rfl
 g18 := by kernel_rfl
 g19 := by kernel_rfl }
open Go.RowKit in
theorem Tryz.strconv_Atoi (s : ByteArray) (n : Int) (hl : s.size ≤ 18) (h : Lib.atoi s.data.toList = some n) (w : World) :
 Calls Tryz.prog 78 #[.string s] w fun e w' => e = .returned (.tuple #[.int .i64 n,.nilIface]) ∧ ∃ t,w' = Lib.bytesWorld w 5 t := Any.strconv_Atoi Tryz.lays172 s n hl h w
def Tryz.laysM171_ren : Go.Shelf.Ren := ⟨fun | 171 => 32 | 243 => 53 | 246 => 72 | 283 => 90 | 284 => 91 | 285 => 92 | 286 => 93 | 129 => 112 | 317 => 111 | 318 => 113 | 319 => 114 | 320 => 115 | 337 => 141 | 338 => 142 | n => n,fun | 3 => 3 | 9 => 9 | 2 => 2 | 4 => 4 | 171 => 126 | 0 => 0 | 53 => 127 | 37 => 25 | 5 => 5 | 173 => 130 | 212 => 144 | 51 => 86 | 20 => 20 | 213 => 145 | 46 => 51 | 232 => 181 | 233 => 182 | n => n,fun | 17 => 1 | 18 => 4 | 19 => 5 | n => n⟩
theorem Tryz.laysM171 : Go.Proofs.LaysM.n171 Tryz.prog Tryz.laysM171_ren := {
 mixed := by kernel_rfl
 f129 := func112.trans (congrArg some (by kernel_rfl))
 f171 := func32.trans (congrArg some (by kernel_rfl))
 f243 := func53.trans (congrArg some (by kernel_rfl))
 f246 := func72.trans (congrArg some (by kernel_rfl))
 f283 := func90.trans (congrArg some (by kernel_rfl))
 f284 := func91.trans (congrArg some (by kernel_rfl))
 f285 := func92.trans (congrArg some (by kernel_rfl))
 f286 := func93.trans (congrArg some (by kernel_rfl))
 f317 := func111.trans (congrArg some (by kernel_rfl))
 f318 := func113.trans (congrArg some (by kernel_rfl))
 f319 := func114.trans (congrArg some (by kernel_rfl))
 f320 := func115.trans (congrArg some (by kernel_rfl))
 f337 := func141.trans (congrArg some (by kernel_rfl))
 f338 := func142.trans (congrArg some (by kernel_rfl))
 t0 := underlying0
 a0 := isAgg0
 z0 := sizeOf0
 v0 := zeroValue0
 t2 := underlying2
 a2 := isAgg2
 z2 := sizeOf2
 v2 := zeroValue2
 t3 := underlying3
 a3 := isAgg3
 z3 := sizeOf3
 v3 := zeroValue3
 t4 := underlying4
 a4 := isAgg4
 z4 := sizeOf4
 v4 := zeroValue4
 t5 := underlying5
 a5 := isAgg5
 z5 := sizeOf5
 v5 := zeroValue5
 t9 := underlying9
 a9 := isAgg9
 z9 := sizeOf9
 v9 := zeroValue9
 t20 := underlying20
 a20 := isAgg20
 z20 := sizeOf20
 v20 := zeroValue20
 t37 := underlying25
 a37 := isAgg25
 z37 := sizeOf25
 v37 := zeroValue25
 t46 := underlying51
 a46 := isAgg51
 z46 := sizeOf51
 v46 := zeroValue51
 t51 := underlying86
 a51 := isAgg86
 z51 := sizeOf86
 v51 := zeroValue86
 t53 := underlying127
 a53 := isAgg127
 z53 := sizeOf127
 v53 := zeroValue127
 t171 := underlying126
 a171 := isAgg126
 z171 := sizeOf126
 v171 := zeroValue126
 t173 := underlying130
 a173 := isAgg130
 z173 := sizeOf130
 v173 := zeroValue130
 t212 := underlying144
 a212 := isAgg144
 z212 := sizeOf144
 v212 := zeroValue144
 t213 := underlying145
 a213 := isAgg145
 z213 := sizeOf145
 t232 := underlying181
 a232 := isAgg181
 z232 := sizeOf181
 v232 := zeroValue181
 t233 := underlying182
 a233 := isAgg182
 z233 := sizeOf182
 v233 := zeroValue182
 g17 := by kernel_rfl
 g18 := by kernel_rfl
 g19 := by kernel_rfl
 i0 := by kernel_rfl
 i2 := by kernel_rfl
 i3 := by kernel_rfl
 i4 := by kernel_rfl
 i5 := by kernel_rfl
 i9 := by kernel_rfl
 i20 := by kernel_rfl
 i37 := by kernel_rfl
 i46 := by kernel_rfl
 i51 := by kernel_rfl
 i53 := by kernel_rfl
 i171 := by kernel_rfl
 i173 := by kernel_rfl
 i212 := by kernel_rfl
 i232 := by kernel_rfl
 i233 := by kernel_rfl
 m17 := by kernel_rfl
 m18 := by kernel_rfl
 m19 := by kernel_rfl }
open Go.RowKit Go.Sort Go.Lib in
theorem Tryz.strconv_Itoa (n : Int) (h0 : -9223372036854775808 ≤ n) (h1 : n ≤ 9223372036854775807) (w : World) (htab : Lib.TabIs Tryz.prog w "internal/strconv.uint64pow10" .u64 Lib.pow10Tab) :
 Calls Tryz.prog 32 #[.int .i64 n] w fun e w' => e = .returned (.string ⟨(Lib.itoa n).toArray⟩) ∧ ∃ k os,w' = grow (w.drewN k) os := Any.strconv_Itoa Tryz.laysM171 n h0 h1 w htab
def Tryz.lays219_ren : Go.Shelf.Ren := ⟨fun | 219 => 119 | 217 => 144 | 225 => 134 | 224 => 75 | 267 => 145 | 266 => 128 | 314 => 156 | n => n,fun | 9 => 9 | 3 => 3 | 4 => 4 | 5 => 5 | 46 => 51 | 146 => 132 | 51 => 86 | n => n,fun | 1 => 0 | n => n⟩
theorem Tryz.lays219 : Go.Proofs.Lays.n219 Tryz.prog Tryz.lays219_ren := {
 mixed := by kernel_rfl
 f217 := func144.trans (congrArg some (by kernel_rfl))
 f219 := func119.trans (congrArg some (by kernel_rfl))
 f224 := func75.trans (congrArg some (by kernel_rfl))
 f225 := func134.trans (congrArg some (by kernel_rfl))
 f266 := func128.trans (congrArg some (by kernel_rfl))
 f267 := func145.trans (congrArg some (by kernel_rfl))
 f314 := func156.trans (congrArg some (by kernel_rfl))
 t3 := underlying3
 a3 := isAgg3
 z3 := sizeOf3
 v3 := zeroValue3
 t4 := underlying4
 a4 := isAgg4
 z4 := sizeOf4
 v4 := zeroValue4
 t5 := underlying5
 a5 := isAgg5
 z5 := sizeOf5
 v5 := zeroValue5
 t9 := underlying9
 a9 := isAgg9
 z9 := sizeOf9
 v9 := zeroValue9
 t46 := underlying51
 a46 := isAgg51
 z46 := sizeOf51
 v46 := zeroValue51
 t51 := underlying86
 a51 := isAgg86
 z51 := sizeOf86
 v51 := zeroValue86
 t146 := underlying132
 a146 := isAgg132
 z146 := sizeOf132
 v146 := zeroValue132
 g1 := by kernel_rfl }
open Go.RowKit Go.Lib in
theorem Tryz.stringslite_Index_one (s : ByteArray) (c : UInt8) (w : World) :
 Calls Tryz.prog 119 #[.string s,.string ⟨#[c]⟩] w fun e w' => e = .returned (.int .i64 (Lib.indexByte s.data.toList c)) ∧ w' = w := Any.stringslite_Index_one Tryz.lays219 s c w
def Tryz.lays143_ren : Go.Shelf.Ren := ⟨fun | 143 => 98 | 219 => 119 | 217 => 144 | 225 => 134 | 224 => 75 | 267 => 145 | 266 => 128 | 314 => 156 | n => n,fun | 9 => 9 | 3 => 3 | 4 => 4 | 5 => 5 | 46 => 51 | 146 => 132 | 51 => 86 | n => n,fun | 1 => 0 | n => n⟩
theorem Tryz.lays143 : Go.Proofs.Lays.n143 Tryz.prog Tryz.lays143_ren := {
 mixed := by kernel_rfl
 f143 := func98.trans (congrArg some (by kernel_rfl))
 f217 := func144.trans (congrArg some (by kernel_rfl))
 f219 := func119.trans (congrArg some (by kernel_rfl))
 f224 := func75.trans (congrArg some (by kernel_rfl))
 f225 := func134.trans (congrArg some (by kernel_rfl))
 f266 := func128.trans (congrArg some (by kernel_rfl))
 f267 := func145.trans (congrArg some (by kernel_rfl))
 f314 := func156.trans (congrArg some (by kernel_rfl))
 t3 := underlying3
 a3 := isAgg3
 z3 := sizeOf3
 v3 := zeroValue3
 t4 := underlying4
 a4 := isAgg4
 z4 := sizeOf4
 v4 := zeroValue4
 t5 := underlying5
 a5 := isAgg5
 z5 := sizeOf5
 v5 := zeroValue5
 t9 := underlying9
 a9 := isAgg9
 z9 := sizeOf9
 v9 := zeroValue9
 t46 := underlying51
 a46 := isAgg51
 z46 := sizeOf51
 v46 := zeroValue51
 t51 := underlying86
 a51 := isAgg86
 z51 := sizeOf86
 v51 := zeroValue86
 t146 := underlying132
 a146 := isAgg132
 z146 := sizeOf132
 v146 := zeroValue132
 g1 := by kernel_rfl }
open Go.RowKit Go.Lib in
theorem Tryz.strings_Index_one (s : ByteArray) (c : UInt8) (w : World) :
 Calls Tryz.prog 98 #[.string s,.string ⟨#[c]⟩] w fun e w' => e = .returned (.int .i64 (Lib.indexByte s.data.toList c)) ∧ w' = w := Any.strings_Index_one Tryz.lays143 s c w
def Tryz.lays138_ren : Go.Shelf.Ren := ⟨fun | 138 => 97 | 195 => 116 | 218 => 118 | 143 => 98 | 219 => 119 | 217 => 144 | 225 => 134 | 224 => 75 | 267 => 145 | 266 => 128 | 314 => 156 | n => n,fun | 9 => 9 | 3 => 3 | 4 => 4 | 5 => 5 | 0 => 0 | 46 => 51 | 146 => 132 | 51 => 86 | n => n,fun | 1 => 0 | n => n⟩
theorem Tryz.lays138 : Go.Proofs.Lays.n138 Tryz.prog Tryz.lays138_ren := {
 mixed := by kernel_rfl
 f138 := func97.trans (congrArg some (by kernel_rfl))
 f143 := func98.trans (congrArg some (by kernel_rfl))
 f195 := func116.trans (congrArg some (by kernel_rfl))
 f217 := func144.trans (congrArg some (by kernel_rfl))
 f218 := func118.trans (congrArg some (by kernel_rfl))
 f219 := func119.trans (congrArg some (by kernel_rfl))
 f224 := func75.trans (congrArg some (by kernel_rfl))
 f225 := func134.trans (congrArg some (by kernel_rfl))
 f266 := func128.trans (congrArg some (by kernel_rfl))
 f267 := func145.trans (congrArg some (by kernel_rfl))
 f314 := func156.trans (congrArg some (by kernel_rfl))
 t0 := underlying0
 a0 := isAgg0
 z0 := sizeOf0
 v0 := zeroValue0
 t3 := underlying3
 a3 := isAgg3
 z3 := sizeOf3
 v3 := zeroValue3
 t4 := underlying4
 a4 := isAgg4
 z4 := sizeOf4
 v4 := zeroValue4
 t5 := underlying5
 a5 := isAgg5
 z5 := sizeOf5
 v5 := zeroValue5
 t9 := underlying9
 a9 := isAgg9
 z9 := sizeOf9
 v9 := zeroValue9
 t46 := underlying51
 a46 := isAgg51
 z46 := sizeOf51
 v46 := zeroValue51
 t51 := underlying86
 a51 := isAgg86
 z51 := sizeOf86
 v51 := zeroValue86
 t146 := underlying132
 a146 := isAgg132
 z146 := sizeOf132
 v146 := zeroValue132
 g1 := by kernel_rfl }
open Go.RowKit Go.Lib in
theorem Tryz.strings_Count_one (s : ByteArray) (c : UInt8) (w : World) :
 Calls Tryz.prog 97 #[.string s,.string ⟨#[c]⟩] w fun e w' => e = .returned (.int .i64 (Lib.countByte s.data.toList c)) ∧ w' = w := Any.strings_Count_one Tryz.lays138 s c w
def Tryz.lays185_ren : Go.Shelf.Ren := ⟨fun | 185 => 56 | 187 => 73 | 115 => 37 | 253 => 74 | 224 => 75 | 254 => 76 | 255 => 94 | 291 => 95 | n => n,fun | 37 => 25 | 3 => 3 | 4 => 4 | 0 => 0 | 5 => 5 | 46 => 51 | 9 => 9 | 146 => 132 | 51 => 86 | n => n,fun | 1 => 0 | n => n⟩
theorem Tryz.lays185 : Go.Proofs.Lays.n185 Tryz.prog Tryz.lays185_ren := {
 mixed := by kernel_rfl
 f115 := func37.trans (congrArg some (by kernel_rfl))
 f185 := func56.trans (congrArg some (by kernel_rfl))
 f187 := func73.trans (congrArg some (by kernel_rfl))
 f224 := func75.trans (congrArg some (by kernel_rfl))
 f253 := func74.trans (congrArg some (by kernel_rfl))
 f254 := func76.trans (congrArg some (by kernel_rfl))
 f255 := func94.trans (congrArg some (by kernel_rfl))
 f291 := func95.trans (congrArg some (by kernel_rfl))
 t0 := underlying0
 a0 := isAgg0
 z0 := sizeOf0
 v0 := zeroValue0
 t3 := underlying3
 a3 := isAgg3
 z3 := sizeOf3
 v3 := zeroValue3
 t4 := underlying4
 a4 := isAgg4
 z4 := sizeOf4
 v4 := zeroValue4
 t5 := underlying5
 a5 := isAgg5
 z5 := sizeOf5
 v5 := zeroValue5
 t9 := underlying9
 a9 := isAgg9
 z9 := sizeOf9
 v9 := zeroValue9
 t37 := underlying25
 a37 := isAgg25
 z37 := sizeOf25
 v37 := zeroValue25
 t46 := underlying51
 a46 := isAgg51
 z46 := sizeOf51
 v46 := zeroValue51
 t51 := underlying86
 a51 := isAgg86
 z51 := sizeOf86
 v51 := zeroValue86
 t146 := underlying132
 a146 := isAgg132
 z146 := sizeOf132
 v146 := zeroValue132
 g1 := by kernel_rfl }
open Go.RowKit Go.Lib in
theorem Tryz.bytes_Index_longer (p q : Option Addr) (n c m d : Nat) (w : World) (h2 : 2 ≤ m) (hnm : n < m) (hm : m ≤ 9223372036854775807) :
 Calls Tryz.prog 56 #[.slice p n c,.slice q m d] w fun e w' => e = .returned (.int .i64 (-1)) ∧ w' = w := Any.bytes_Index_longer Tryz.lays185 p q n c m d w h2 hnm hm
open Go.Proofs Go.RowKit Go.Lib in
theorem Tryz.bytes_Index_at (a1 a2 : Addr) (n c1 k c2 : Nat) (xs ys : List Int) (m : Int) (w : World) (hx : xs.length = n) (hy : ys.length = k) (hr1 : ∀ x ∈ xs,0 ≤ x ∧ x < 256) (hr2 : ∀ y ∈ ys,0 ≤ y ∧ y < 256) (hc1 : ∀ i,i < n → w.cell? (a1.add i) = some (.int .u8 (xs.getD i 0))) (hc2 : ∀ i,i < k → w.cell? (a2.add i) = some (.int .u8 (ys.getD i 0))) (hcap : n ≤ c1) (hs : n < 4294967281) (hk : k ≤ 9223372036854775807) (hm : w.cell? ⟨0,0,none⟩ = some (.int .i64 m)) :
 Calls Tryz.prog 56 #[.slice (some a1) n c1,.slice (some a2) k c2] w fun e w' => e = .returned (.int .i64 (Lib.index (Lib.bytesOf xs) (Lib.bytesOf ys))) ∧ ∃ q,w' = w.drewN q := Any.bytes_Index_at Tryz.lays185 a1 a2 n c1 k c2 xs ys m w hx hy hr1 hr2 hc1 hc2 hcap hs hk hm
end Go.Proofs
