import Derived.Shelf.Strings.Builder1
import Derived.Shelf.Strings.Builder2
import Derived.Shelf.Small.Utf8
import Derived.Shelf.Small.Strs
import Derived.Shelf.Strings.BuilderF
import Derived.Shelf.Strconv.Atoi
import Derived.Shelf.Strconv.Itoa0
import Derived.Shelf.Strconv.Itoa1
import Derived.Shelf.LaysM
import Derived.Shelf.Strconv.Itoa2
import Derived.Shelf.Strconv.Itoa3
import Derived.Shelf.Strconv.AtoiErrFast
import Derived.Shelf.Strconv.ParseIntEmpty
import Derived.Shelf.Strconv.AtoiFail
import Derived.Shelf.Strconv.Clone
import Derived.Shelf.Strconv.SyntaxError
import Derived.Shelf.LaysC
import Derived.Shelf.Strconv.ToError
import Derived.Shelf.Strconv.AtoiErr
import Derived.Shelf.Strings.Search1
import Derived.Shelf.Strings.Search2
import Derived.Shelf.Strings.Search3
import Derived.Shelf.Strings.Cut
import Derived.Shelf.Strings.Shaped
import Derived.Shelf.Strings.Prefix
import Derived.Shelf.Bits.Mul64
import Derived.Shelf.Strings.Repeat
import Derived.Shelf.Unicode.DecodeSlow
import Derived.Shelf.Unicode.DecodeAny
import Derived.Shelf.Bytes.SlIndexSmall
import Derived.Shelf.Bytes.SlIndexAt
import Derived.Shelf.Bytes.SlSearch0
import Derived.Shelf.Bytes.SlSearch1
import Derived.Shelf.Bytes.SlSearch2
import Derived.Shelf.Bytes.SlIndexWhole
import Derived.Shelf.Bytes.SlSmallAll
import Derived.Ground.SlbtProg
import Derived.Shelf.Bytes.SlCut
import Derived.Shelf.Bytes.Small
import Derived.Shelf.Bytes.IndexByte
import Derived.Test.YtjnnkhmhjcjhdaaGreatDoorProg
namespace Go.Proofs
open Tryz
open Go.Shelf
def Tryz.lays137_ren : Go.Shelf.Ren := ⟨fun | 137 => 224 | 217 => 163 | 266 => 166 | n => n,fun | 9 => 9 | 5 => 5 | 3 => 3 | n => n,fun | n => n⟩
theorem Tryz.lays137 : Go.Proofs.Lays.n137 Tryz.prog Tryz.lays137_ren := {
 mixed := by kernel_rfl
 f137 := func224.trans (congrArg some (by kernel_rfl))
 f217 := func163.trans (congrArg some (by kernel_rfl))
 f266 := func166.trans (congrArg some (by kernel_rfl))
 t3 := underlying3
 a3 := isAgg3
 z3 := sizeOf3
 v3 := zeroValue3
 t5 := underlying5
 a5 := isAgg5
 z5 := sizeOf5
 v5 := zeroValue5
 t9 := underlying9
 a9 := isAgg9
 z9 := sizeOf9
 v9 := zeroValue9 }
open Go.RowKit in
theorem Tryz.strings_IndexByte (s : ByteArray) (c : Int) (w : World) :
 Calls Tryz.prog 224 #[.string s,.int .u8 c] w fun e w' => e = .returned (.int .i64 (Lib.indexByte s.data.toList c.toNat.toUInt8)) ∧ w' = w := Any.strings_IndexByte Tryz.lays137 s c w
def Tryz.lays172_ren : Go.Shelf.Ren := ⟨fun | 172 => 139 | 244 => 160 | 245 => 161 | 247 => 189 | 279 => 190 | 280 => 191 | 281 => 192 | 282 => 193 | 287 => 210 | 316 => 211 | 171 => 150 | 205 => 212 | 321 => 221 | 322 => 222 | 243 => 177 | 246 => 200 | 283 => 215 | 284 => 216 | 285 => 217 | 286 => 218 | 129 => 226 | 317 => 225 | 318 => 227 | 319 => 228 | 320 => 229 | 337 => 230 | 338 => 231 | n => n,fun | 9 => 9 | 3 => 3 | 75 => 155 | 76 => 157 | 4 => 4 | 5 => 5 | 167 => 210 | 37 => 28 | 0 => 0 | 85 => 211 | 2 => 2 | 168 => 213 | 53 => 105 | 175 => 231 | 46 => 39 | 210 => 234 | 127 => 173 | 145 => 249 | 143 => 247 | 21 => 21 | 171 => 236 | 173 => 239 | 212 => 251 | 51 => 106 | 20 => 20 | 213 => 252 | 232 => 255 | 233 => 205 | 80 => 99 | n => n,fun | 15 => 3 | 16 => 4 | 17 => 7 | 18 => 8 | 19 => 9 | n => n⟩
theorem Tryz.lays172 : Go.Proofs.Lays.n172 Tryz.prog Tryz.lays172_ren := {
 mixed := by kernel_rfl
 f129 := func226.trans (congrArg some (by kernel_rfl))
 f171 := func150.trans (congrArg some (by kernel_rfl))
 f172 := func139.trans (congrArg some (by kernel_rfl))
 f205 := func212.trans (congrArg some (by kernel_rfl))
 f243 := func177.trans (congrArg some (by kernel_rfl))
 f244 := func160.trans (congrArg some (by kernel_rfl))
 f245 := func161.trans (congrArg some (by kernel_rfl))
 f246 := func200.trans (congrArg some (by kernel_rfl))
 f247 := func189.trans (congrArg some (by kernel_rfl))
 f279 := func190.trans (congrArg some (by kernel_rfl))
 f280 := func191.trans (congrArg some (by kernel_rfl))
 f281 := func192.trans (congrArg some (by kernel_rfl))
 f282 := func193.trans (congrArg some (by kernel_rfl))
 f283 := func215.trans (congrArg some (by kernel_rfl))
 f284 := func216.trans (congrArg some (by kernel_rfl))
 f285 := func217.trans (congrArg some (by kernel_rfl))
 f286 := func218.trans (congrArg some (by kernel_rfl))
 f287 := func210.trans (congrArg some (by kernel_rfl))
 f316 := func211.trans (congrArg some (by kernel_rfl))
 f317 := func225.trans (congrArg some (by kernel_rfl))
 f318 := func227.trans (congrArg some (by kernel_rfl))
 f319 := func228.trans (congrArg some (by kernel_rfl))
 f320 := func229.trans (congrArg some (by kernel_rfl))
 f321 := func221.trans (congrArg some (by kernel_rfl))
 f322 := func222.trans (congrArg some (by kernel_rfl))
 f337 := func230.trans (congrArg some (by kernel_rfl))
 f338 := func231.trans (congrArg some (by kernel_rfl))
 t0 := underlying0
 a0 := isAgg0
 z0 := sizeOf0
 v0 := zeroValue0
 t2 := underlying2
 a2 := isAgg2
 z2 := sizeOf2
 v2 := zeroValue2
 t3 := underlying3
 a3 := isAgg3
 z3 := sizeOf3
 v3 := zeroValue3
 t4 := underlying4
 a4 := isAgg4
 z4 := sizeOf4
 v4 := zeroValue4
 t5 := underlying5
 a5 := isAgg5
 z5 := sizeOf5
 v5 := zeroValue5
 t9 := underlying9
 a9 := isAgg9
 z9 := sizeOf9
 v9 := zeroValue9
 t20 := underlying20
 a20 := isAgg20
 z20 := sizeOf20
 v20 := zeroValue20
 t21 := underlying21
 a21 := isAgg21
 z21 := sizeOf21
 v21 := zeroValue21
 t37 := underlying28
 a37 := isAgg28
 z37 := sizeOf28
 v37 := zeroValue28
 t46 := underlying39
 a46 := isAgg39
 z46 := sizeOf39
 v46 := zeroValue39
 t51 := underlying106
 a51 := isAgg106
 z51 := sizeOf106
 v51 := zeroValue106
 t53 := underlying105
 a53 := isAgg105
 z53 := sizeOf105
 v53 := zeroValue105
 t75 := underlying155
 a75 := isAgg155
 z75 := sizeOf155
 v75 := zeroValue155
 t76 := underlying157
 a76 := isAgg157
 z76 := sizeOf157
 v76 := zeroValue157
 t85 := underlying211
 a85 := isAgg211
 z85 := sizeOf211
 v85 := zeroValue211
 t127 := underlying173
 a127 := isAgg173
 z127 := sizeOf173
 v127 := zeroValue173
 t143 := underlying247
 a143 := isAgg247
 z143 := sizeOf247
 v143 := zeroValue247
 t145 := underlying249
 a145 := isAgg249
 z145 := sizeOf249
 v145 := zeroValue249
 t167 := underlying210
 a167 := isAgg210
 z167 := sizeOf210
 v167 := zeroValue210
 t168 := underlying213
 a168 := isAgg213
 z168 := sizeOf213
 v168 := zeroValue213
 t171 := underlying236
 a171 := isAgg236
 z171 := sizeOf236
 v171 := zeroValue236
 t173 := underlying239
 a173 := isAgg239
 z173 := sizeOf239
 v173 := zeroValue239
 t175 := underlying231
 a175 := isAgg231
 z175 := sizeOf231
 v175 := zeroValue231
 t210 := underlying234
 a210 := isAgg234
 z210 := sizeOf234
 v210 := zeroValue234
 t212 := underlying251
 a212 := isAgg251
 z212 := sizeOf251
 v212 := zeroValue251
 t213 := underlying252
 a213 := isAgg252
 z213 := sizeOf252
 t232 := underlying255
 a232 := isAgg255
 z232 := sizeOf255
 v232 := zeroValue255
 t233 := underlying205
 a233 := isAgg205
 z233 := sizeOf205
 v233 := zeroValue205
 g15 := by kernel_rfl
 g16 := by kernel_rfl
 g17 := by kernel_rfl
 g18 := by kernel_rfl
 g19 := by kernel_rfl }
open Go.RowKit in
theorem Tryz.strconv_Atoi (s : ByteArray) (n : Int) (hl : s.size ≤ 18) (h : Lib.atoi s.data.toList = some n) (w : World) :
 Calls Tryz.prog 139 #[.string s] w fun e w' => e = .returned (.tuple #[.int .i64 n,.nilIface]) ∧ ∃ t,w' = Lib.bytesWorld w 5 t := Any.strconv_Atoi Tryz.lays172 s n hl h w
def Tryz.laysM171_ren : Go.Shelf.Ren := ⟨fun | 171 => 150 | 243 => 177 | 246 => 200 | 283 => 215 | 284 => 216 | 285 => 217 | 286 => 218 | 129 => 226 | 317 => 225 | 318 => 227 | 319 => 228 | 320 => 229 | 337 => 230 | 338 => 231 | n => n,fun | 3 => 3 | 9 => 9 | 2 => 2 | 4 => 4 | 171 => 236 | 0 => 0 | 53 => 105 | 37 => 28 | 5 => 5 | 173 => 239 | 212 => 251 | 51 => 106 | 20 => 20 | 213 => 252 | 46 => 39 | 232 => 255 | 233 => 205 | n => n,fun | 17 => 7 | 18 => 8 | 19 => 9 | n => n⟩
theorem Tryz.laysM171 : Go.Proofs.LaysM.n171 Tryz.prog Tryz.laysM171_ren := {
 mixed := by kernel_rfl
 f129 := func226.trans (congrArg some (by kernel_rfl))
 f171 := func150.trans (congrArg some (by kernel_rfl))
 f243 := func177.trans (congrArg some (by kernel_rfl))
 f246 := func200.trans (congrArg some (by kernel_rfl))
 f283 := func215.trans (congrArg some (by kernel_rfl))
 f284 := func216.trans (congrArg some (by kernel_rfl))
 f285 := func217.trans (congrArg some (by kernel_rfl))
 f286 := func218.trans (congrArg some (by kernel_rfl))
 f317 := func225.trans (congrArg some (by kernel_rfl))
 f318 := func227.trans (congrArg some (by kernel_rfl))
 f319 := func228.trans (congrArg some (by kernel_rfl))
 f320 := func229.trans (congrArg some (by kernel_rfl))
 f337 := func230.trans (congrArg some (by kernel_rfl))
 f338 := func231.trans (congrArg some (by kernel_rfl))
 t0 := underlying0
 a0 := isAgg0
 z0 := sizeOf0
 v0 := zeroValue0
 t2 := underlying2
 a2 := isAgg2
 z2 := sizeOf2
 v2 := zeroValue2
 t3 := underlying3
 a3 := isAgg3
 z3 := sizeOf3
 v3 := zeroValue3
 t4 := underlying4
 a4 := isAgg4
 z4 := sizeOf4
 v4 := zeroValue4
 t5 := underlying5
 a5 := isAgg5
 z5 := sizeOf5
 v5 := zeroValue5
 t9 := underlying9
 a9 := isAgg9
 z9 := sizeOf9
 v9 := zeroValue9
 t20 := underlying20
 a20 := isAgg20
 z20 := sizeOf20
 v20 := zeroValue20
 t37 := underlying28
 a37 := isAgg28
 z37 := sizeOf28
 v37 := zeroValue28
 t46 := underlying39
 a46 := isAgg39
 z46 := sizeOf39
 v46 := zeroValue39
 t51 := underlying106
 a51 := isAgg106
 z51 := sizeOf106
 v51 := zeroValue106
 t53 := underlying105
 a53 := isAgg105
 z53 := sizeOf105
 v53 := zeroValue105
 t171 := underlying236
 a171 := isAgg236
 z171 := sizeOf236
 v171 := zeroValue236
 t173 := underlying239
 a173 := isAgg239
 z173 := sizeOf239
 v173 := zeroValue239
 t212 := underlying251
 a212 := isAgg251
 z212 := sizeOf251
 v212 := zeroValue251
 t213 := underlying252
 a213 := isAgg252
 z213 := sizeOf252
 t232 := underlying255
 a232 := isAgg255
 z232 := sizeOf255
 v232 := zeroValue255
 t233 := underlying205
 a233 := isAgg205
 z233 := sizeOf205
 v233 := zeroValue205
 g17 := by kernel_rfl
 g18 := by kernel_rfl
 g19 := by kernel_rfl
 i0 := by kernel_rfl
 i2 := by kernel_rfl
 i3 := by kernel_rfl
 i4 := by kernel_rfl
 i5 := by kernel_rfl
 i9 := by kernel_rfl
 i20 := by kernel_rfl
 i37 := by kernel_rfl
 i46 := by kernel_rfl
 i51 := by kernel_rfl
 i53 := by kernel_rfl
 i171 := by kernel_rfl
 i173 := by kernel_rfl
 i212 := by kernel_rfl
 i232 := by kernel_rfl
 i233 := by kernel_rfl
 m17 := by kernel_rfl
 m18 := by kernel_rfl
 m19 := by kernel_rfl }
open Go.RowKit Go.Sort Go.Lib in
theorem Tryz.strconv_Itoa (n : Int) (h0 : -9223372036854775808 ≤ n) (h1 : n ≤ 9223372036854775807) (w : World) (htab : Lib.TabIs Tryz.prog w "internal/strconv.uint64pow10" .u64 Lib.pow10Tab) :
 Calls Tryz.prog 150 #[.int .i64 n] w fun e w' => e = .returned (.string ⟨(Lib.itoa n).toArray⟩) ∧ ∃ k os,w' = grow (w.drewN k) os := Any.strconv_Itoa Tryz.laysM171 n h0 h1 w htab
def Tryz.laysC172_ren : Go.Shelf.Ren := ⟨fun | 172 => 139 | 244 => 160 | 245 => 161 | 247 => 189 | 279 => 190 | 280 => 191 | 281 => 192 | 282 => 193 | 287 => 210 | 316 => 211 | 171 => 150 | 205 => 212 | 321 => 221 | 322 => 222 | 243 => 177 | 246 => 200 | 283 => 215 | 284 => 216 | 285 => 217 | 286 => 218 | 129 => 226 | 317 => 225 | 318 => 227 | 319 => 228 | 320 => 229 | 337 => 230 | 338 => 231 | n => n,fun | 9 => 9 | 3 => 3 | 75 => 155 | 76 => 157 | 4 => 4 | 5 => 5 | 167 => 210 | 37 => 28 | 0 => 0 | 85 => 211 | 2 => 2 | 168 => 213 | 53 => 105 | 175 => 231 | 46 => 39 | 210 => 234 | 127 => 173 | 145 => 249 | 143 => 247 | 21 => 21 | 171 => 236 | 173 => 239 | 212 => 251 | 51 => 106 | 20 => 20 | 213 => 252 | 232 => 255 | 233 => 205 | 80 => 99 | n => n,fun | 15 => 3 | 16 => 4 | 17 => 7 | 18 => 8 | 19 => 9 | n => n⟩
theorem Tryz.laysC172 : Go.Proofs.LaysC.n172 Tryz.prog Tryz.laysC172_ren := {
 mixed := by kernel_rfl
 f129 := func226.trans (congrArg some (by kernel_rfl))
 f171 := func150.trans (congrArg some (by kernel_rfl))
 f172 := func139.trans (congrArg some (by kernel_rfl))
 f205 := func212.trans (congrArg some (by kernel_rfl))
 f243 := func177.trans (congrArg some (by kernel_rfl))
 f244 := func160.trans (congrArg some (by kernel_rfl))
 f245 := func161.trans (congrArg some (by kernel_rfl))
 f246 := func200.trans (congrArg some (by kernel_rfl))
 f247 := func189.trans (congrArg some (by kernel_rfl))
 f279 := func190.trans (congrArg some (by kernel_rfl))
 f280 := func191.trans (congrArg some (by kernel_rfl))
 f281 := func192.trans (congrArg some (by kernel_rfl))
 f282 := func193.trans (congrArg some (by kernel_rfl))
 f283 := func215.trans (congrArg some (by kernel_rfl))
 f284 := func216.trans (congrArg some (by kernel_rfl))
 f285 := func217.trans (congrArg some (by kernel_rfl))
 f286 := func218.trans (congrArg some (by kernel_rfl))
 f287 := func210.trans (congrArg some (by kernel_rfl))
 f316 := func211.trans (congrArg some (by kernel_rfl))
 f317 := func225.trans (congrArg some (by kernel_rfl))
 f318 := func227.trans (congrArg some (by kernel_rfl))
 f319 := func228.trans (congrArg some (by kernel_rfl))
 f320 := func229.trans (congrArg some (by kernel_rfl))
 f321 := func221.trans (congrArg some (by kernel_rfl))
 f322 := func222.trans (congrArg some (by kernel_rfl))
 f337 := func230.trans (congrArg some (by kernel_rfl))
 f338 := func231.trans (congrArg some (by kernel_rfl))
 t0 := underlying0
 a0 := isAgg0
 z0 := sizeOf0
 v0 := zeroValue0
 t2 := underlying2
 a2 := isAgg2
 z2 := sizeOf2
 v2 := zeroValue2
 t3 := underlying3
 a3 := isAgg3
 z3 := sizeOf3
 v3 := zeroValue3
 t4 := underlying4
 a4 := isAgg4
 z4 := sizeOf4
 v4 := zeroValue4
 t5 := underlying5
 a5 := isAgg5
 z5 := sizeOf5
 v5 := zeroValue5
 t9 := underlying9
 a9 := isAgg9
 z9 := sizeOf9
 v9 := zeroValue9
 t20 := underlying20
 a20 := isAgg20
 z20 := sizeOf20
 v20 := zeroValue20
 t21 := underlying21
 a21 := isAgg21
 z21 := sizeOf21
 v21 := zeroValue21
 t37 := underlying28
 a37 := isAgg28
 z37 := sizeOf28
 v37 := zeroValue28
 t46 := underlying39
 a46 := isAgg39
 z46 := sizeOf39
 v46 := zeroValue39
 t51 := underlying106
 a51 := isAgg106
 z51 := sizeOf106
 v51 := zeroValue106
 t53 := underlying105
 a53 := isAgg105
 z53 := sizeOf105
 v53 := zeroValue105
 t75 := underlying155
 a75 := isAgg155
 z75 := sizeOf155
 v75 := zeroValue155
 t76 := underlying157
 a76 := isAgg157
 z76 := sizeOf157
 v76 := zeroValue157
 t85 := underlying211
 a85 := isAgg211
 z85 := sizeOf211
 v85 := zeroValue211
 t127 := underlying173
 a127 := isAgg173
 z127 := sizeOf173
 v127 := zeroValue173
 t143 := underlying247
 a143 := isAgg247
 z143 := sizeOf247
 v143 := zeroValue247
 t145 := underlying249
 a145 := isAgg249
 z145 := sizeOf249
 v145 := zeroValue249
 t167 := underlying210
 a167 := isAgg210
 z167 := sizeOf210
 v167 := zeroValue210
 t168 := underlying213
 a168 := isAgg213
 z168 := sizeOf213
 v168 := zeroValue213
 t171 := underlying236
 a171 := isAgg236
 z171 := sizeOf236
 v171 := zeroValue236
 t173 := underlying239
 a173 := isAgg239
 z173 := sizeOf239
 v173 := zeroValue239
 t175 := underlying231
 a175 := isAgg231
 z175 := sizeOf231
 v175 := zeroValue231
 t210 := underlying234
 a210 := isAgg234
 z210 := sizeOf234
 v210 := zeroValue234
 t212 := underlying251
 a212 := isAgg251
 z212 := sizeOf251
 v212 := zeroValue251
 t213 := underlying252
 a213 := isAgg252
 z213 := sizeOf252
 t232 := underlying255
 a232 := isAgg255
 z232 := sizeOf255
 v232 := zeroValue255
 t233 := underlying205
 a233 := isAgg205
 z233 := sizeOf205
 v233 := zeroValue205
 g15 := by kernel_rfl
 g16 := by kernel_rfl
 g17 := by kernel_rfl
 g18 := by kernel_rfl
 g19 := by kernel_rfl
 t80 := underlying99
 a80 := isAgg99
 z80 := sizeOf99
 v80 := zeroValue99
 i0 := by kernel_rfl
 i2 := by kernel_rfl
 i3 := by kernel_rfl
 i4 := by kernel_rfl
 i5 := by kernel_rfl
 i9 := by kernel_rfl
 i20 := by kernel_rfl
 i21 := by kernel_rfl
 i37 := by kernel_rfl
 i46 := by kernel_rfl
 i51 := by kernel_rfl
 i53 := by kernel_rfl
 i75 := by kernel_rfl
 i76 := by kernel_rfl
 i80 := by kernel_rfl
 i85 := by kernel_rfl
 i127 := by kernel_rfl
 i143 := by kernel_rfl
 i145 := by kernel_rfl
 i167 := by kernel_rfl
 i168 := by kernel_rfl
 i171 := by kernel_rfl
 i173 := by kernel_rfl
 i175 := by kernel_rfl
 i210 := by kernel_rfl
 i212 := by kernel_rfl
 i232 := by kernel_rfl
 i233 := by kernel_rfl
 m15 := by kernel_rfl
 m16 := by kernel_rfl
 m17 := by kernel_rfl
 m18 := by kernel_rfl
 m19 := by kernel_rfl
 c0 := by kernel_rfl
 c2 := by kernel_rfl
 c3 := by kernel_rfl
 c4 := by kernel_rfl
 c5 := by kernel_rfl
 c9 := by kernel_rfl
 c20 := by kernel_rfl
 c21 := by kernel_rfl
 c37 := by kernel_rfl
 c46 := by kernel_rfl
 c51 := by kernel_rfl
 c53 := by kernel_rfl
 c75 := by kernel_rfl
 c76 := by kernel_rfl
 c80 := by kernel_rfl
 c85 := by kernel_rfl
 c127 := by kernel_rfl
 c143 := by kernel_rfl
 c145 := by kernel_rfl
 c167 := by kernel_rfl
 c168 := by kernel_rfl
 c171 := by kernel_rfl
 c173 := by kernel_rfl
 c175 := by kernel_rfl
 c210 := by kernel_rfl
 c212 := by kernel_rfl
 c213 := by kernel_rfl
 c232 := by kernel_rfl
 c233 := by kernel_rfl }
open Go.RowKit in
theorem Tryz.strconv_Atoi_err (s : ByteArray) (hl : s.size ≤ 18) (h : Lib.atoi s.data.toList = none) (ev : Value) (w : World) (hv : w.cell? ⟨3,0,none⟩ = some ev) (hev : ev = .nilIface ∨ ∃ te pe,ev = .iface te pe) :
 Calls Tryz.prog 139 #[.string s] w fun e w' => ∃ N,e = .returned (.tuple #[.int .i64 0,.iface 213 (.pointer (some ⟨N,0,none⟩))]) ∧ w.heap.size ≤ N ∧ w'.heap[N]? = some (.cells #[.string ⟨#[65,116,111,105]⟩,.string s,ev] 234 (0,0)) ∧ Below w.heap.size w w' := Any.strconv_Atoi_err Tryz.laysC172 s hl h ev w hv hev
def Tryz.lays219_ren : Go.Shelf.Ren := ⟨fun | 219 => 143 | 217 => 163 | 225 => 164 | 224 => 105 | 267 => 165 | 266 => 166 | 314 => 195 | n => n,fun | 9 => 9 | 3 => 3 | 4 => 4 | 5 => 5 | 46 => 39 | 146 => 161 | 51 => 106 | n => n,fun | 1 => 0 | n => n⟩
theorem Tryz.lays219 : Go.Proofs.Lays.n219 Tryz.prog Tryz.lays219_ren := {
 mixed := by kernel_rfl
 f217 := func163.trans (congrArg some (by kernel_rfl))
 f219 := func143.trans (congrArg some (by kernel_rfl))
 f224 := func105.trans (congrArg some (by kernel_rfl))
 f225 := func164.trans (congrArg some (by kernel_rfl))
 f266 := func166.trans (congrArg some (by kernel_rfl))
 f267 := func165.trans (congrArg some (by kernel_rfl))
 f314 := func195.trans (congrArg some (by kernel_rfl))
 t3 := underlying3
 a3 := isAgg3
 z3 := sizeOf3
 v3 := zeroValue3
 t4 := underlying4
 a4 := isAgg4
 z4 := sizeOf4
 v4 := zeroValue4
 t5 := underlying5
 a5 := isAgg5
 z5 := sizeOf5
 v5 := zeroValue5
 t9 := underlying9
 a9 := isAgg9
 z9 := sizeOf9
 v9 := zeroValue9
 t46 := underlying39
 a46 := isAgg39
 z46 := sizeOf39
 v46 := zeroValue39
 t51 := underlying106
 a51 := isAgg106
 z51 := sizeOf106
 v51 := zeroValue106
 t146 := underlying161
 a146 := isAgg161
 z146 := sizeOf161
 v146 := zeroValue161
 g1 := by kernel_rfl }
open Go.RowKit Go.Lib in
theorem Tryz.stringslite_Index_one (s : ByteArray) (c : UInt8) (w : World) :
 Calls Tryz.prog 143 #[.string s,.string ⟨#[c]⟩] w fun e w' => e = .returned (.int .i64 (Lib.indexByte s.data.toList c)) ∧ w' = w := Any.stringslite_Index_one Tryz.lays219 s c w
def Tryz.lays143_ren : Go.Shelf.Ren := ⟨fun | 143 => 121 | 219 => 143 | 217 => 163 | 225 => 164 | 224 => 105 | 267 => 165 | 266 => 166 | 314 => 195 | n => n,fun | 9 => 9 | 3 => 3 | 4 => 4 | 5 => 5 | 46 => 39 | 146 => 161 | 51 => 106 | n => n,fun | 1 => 0 | n => n⟩
theorem Tryz.lays143 : Go.Proofs.Lays.n143 Tryz.prog Tryz.lays143_ren := {
 mixed := by kernel_rfl
 f143 := func121.trans (congrArg some (by kernel_rfl))
 f217 := func163.trans (congrArg some (by kernel_rfl))
 f219 := func143.trans (congrArg some (by kernel_rfl))
 f224 := func105.trans (congrArg some (by kernel_rfl))
 f225 := func164.trans (congrArg some (by kernel_rfl))
 f266 := func166.trans (congrArg some (by kernel_rfl))
 f267 := func165.trans (congrArg some (by kernel_rfl))
 f314 := func195.trans (congrArg some (by kernel_rfl))
 t3 := underlying3
 a3 := isAgg3
 z3 := sizeOf3
 v3 := zeroValue3
 t4 := underlying4
 a4 := isAgg4
 z4 := sizeOf4
 v4 := zeroValue4
 t5 := underlying5
 a5 := isAgg5
 z5 := sizeOf5
 v5 := zeroValue5
 t9 := underlying9
 a9 := isAgg9
 z9 := sizeOf9
 v9 := zeroValue9
 t46 := underlying39
 a46 := isAgg39
 z46 := sizeOf39
 v46 := zeroValue39
 t51 := underlying106
 a51 := isAgg106
 z51 := sizeOf106
 v51 := zeroValue106
 t146 := underlying161
 a146 := isAgg161
 z146 := sizeOf161
 v146 := zeroValue161
 g1 := by kernel_rfl }
open Go.RowKit Go.Lib in
theorem Tryz.strings_Index_one (s : ByteArray) (c : UInt8) (w : World) :
 Calls Tryz.prog 121 #[.string s,.string ⟨#[c]⟩] w fun e w' => e = .returned (.int .i64 (Lib.indexByte s.data.toList c)) ∧ w' = w := Any.strings_Index_one Tryz.lays143 s c w
def Tryz.lays105_ren : Go.Shelf.Ren := ⟨fun | 105 => 127 | 212 => 146 | 99 => 147 | 165 => 148 | 166 => 126 | 170 => 149 | 169 => 128 | 263 => 173 | 264 => 174 | 206 => 175 | 240 => 145 | 241 => 176 | 276 => 172 | 277 => 199 | n => n,fun | 9 => 9 | 3 => 3 | 4 => 4 | 20 => 20 | 0 => 0 | 46 => 39 | 109 => 171 | 5 => 5 | 72 => 153 | 76 => 157 | 51 => 106 | 146 => 161 | 53 => 105 | 148 => 198 | 70 => 151 | 37 => 28 | 75 => 155 | 127 => 173 | 164 => 195 | 80 => 99 | n => n,fun | n => n⟩
theorem Tryz.lays105 : Go.Proofs.Lays.n105 Tryz.prog Tryz.lays105_ren := {
 mixed := by kernel_rfl
 f99 := func147.trans (congrArg some (by kernel_rfl))
 f105 := func127.trans (congrArg some (by kernel_rfl))
 f165 := func148.trans (congrArg some (by kernel_rfl))
 f166 := func126.trans (congrArg some (by kernel_rfl))
 f169 := func128.trans (congrArg some (by kernel_rfl))
 f170 := func149.trans (congrArg some (by kernel_rfl))
 f206 := func175.trans (congrArg some (by kernel_rfl))
 f212 := func146.trans (congrArg some (by kernel_rfl))
 f240 := func145.trans (congrArg some (by kernel_rfl))
 f241 := func176.trans (congrArg some (by kernel_rfl))
 f263 := func173.trans (congrArg some (by kernel_rfl))
 f264 := func174.trans (congrArg some (by kernel_rfl))
 f276 := func172.trans (congrArg some (by kernel_rfl))
 f277 := func199.trans (congrArg some (by kernel_rfl))
 t0 := underlying0
 a0 := isAgg0
 z0 := sizeOf0
 v0 := zeroValue0
 t3 := underlying3
 a3 := isAgg3
 z3 := sizeOf3
 v3 := zeroValue3
 t4 := underlying4
 a4 := isAgg4
 z4 := sizeOf4
 v4 := zeroValue4
 t5 := underlying5
 a5 := isAgg5
 z5 := sizeOf5
 v5 := zeroValue5
 t9 := underlying9
 a9 := isAgg9
 z9 := sizeOf9
 v9 := zeroValue9
 t20 := underlying20
 a20 := isAgg20
 z20 := sizeOf20
 v20 := zeroValue20
 t37 := underlying28
 a37 := isAgg28
 z37 := sizeOf28
 v37 := zeroValue28
 t46 := underlying39
 a46 := isAgg39
 z46 := sizeOf39
 v46 := zeroValue39
 t51 := underlying106
 a51 := isAgg106
 z51 := sizeOf106
 v51 := zeroValue106
 t53 := underlying105
 a53 := isAgg105
 z53 := sizeOf105
 v53 := zeroValue105
 t70 := underlying151
 a70 := isAgg151
 z70 := sizeOf151
 v70 := zeroValue151
 t72 := underlying153
 a72 := isAgg153
 z72 := sizeOf153
 v72 := zeroValue153
 t75 := underlying155
 a75 := isAgg155
 z75 := sizeOf155
 v75 := zeroValue155
 t76 := underlying157
 a76 := isAgg157
 z76 := sizeOf157
 v76 := zeroValue157
 t109 := underlying171
 a109 := isAgg171
 z109 := sizeOf171
 v109 := zeroValue171
 t127 := underlying173
 a127 := isAgg173
 z127 := sizeOf173
 v127 := zeroValue173
 t146 := underlying161
 a146 := isAgg161
 z146 := sizeOf161
 v146 := zeroValue161
 t148 := underlying198
 a148 := isAgg198
 z148 := sizeOf198
 v148 := zeroValue198
 t164 := underlying195
 a164 := isAgg195
 z164 := sizeOf195
 v164 := zeroValue195 }
theorem Tryz.Builder_Extra_105 : Builder.Extra Tryz.prog Tryz.lays105_ren := {
 sizeBuilder := by kernel_rfl
 liesBuilder := by kernel_rfl
 t5 := underlying5
 a5 := isAgg5
 z5 := sizeOf5
 v5 := zeroValue5
 infoByte := by kernel_rfl
 cellsByte := by kernel_rfl
 sizeByte := by kernel_rfl
 neB5 := by decide }
open Go.RowKit Go.Lib in
theorem Tryz.strings_Repeat (s : ByteArray) (c : Nat) (w : World) (hc : c ≤ 9223372036854775807) (hlen : s.size * c ≤ 140737488355328) :
 Calls Tryz.prog 127 #[.string s,.int .i64 c] w fun e w' => e = .returned (.string ⟨(Lib.repeatL s.data.toList c).toArray⟩) ∧ Below w.heap.size w w' := Any.strings_Repeat Tryz.lays105 Tryz.Builder_Extra_105 s c w hc hlen
def Tryz.lays185_ren : Go.Shelf.Ren := ⟨fun | 185 => 89 | 187 => 103 | 115 => 72 | 253 => 104 | 224 => 105 | 254 => 106 | 255 => 131 | 291 => 132 | n => n,fun | 37 => 28 | 3 => 3 | 4 => 4 | 0 => 0 | 5 => 5 | 46 => 39 | 9 => 9 | 146 => 161 | 51 => 106 | n => n,fun | 1 => 0 | n => n⟩
theorem Tryz.lays185 : Go.Proofs.Lays.n185 Tryz.prog Tryz.lays185_ren := {
 mixed := by kernel_rfl
 f115 := func72.trans (congrArg some (by kernel_rfl))
 f185 := func89.trans (congrArg some (by kernel_rfl))
 f187 := func103.trans (congrArg some (by kernel_rfl))
 f224 := func105.trans (congrArg some (by kernel_rfl))
 f253 := func104.trans (congrArg some (by kernel_rfl))
 f254 := func106.trans (congrArg some (by kernel_rfl))
 f255 := func131.trans (congrArg some (by kernel_rfl))
 f291 := func132.trans (congrArg some (by kernel_rfl))
 t0 := underlying0
 a0 := isAgg0
 z0 := sizeOf0
 v0 := zeroValue0
 t3 := underlying3
 a3 := isAgg3
 z3 := sizeOf3
 v3 := zeroValue3
 t4 := underlying4
 a4 := isAgg4
 z4 := sizeOf4
 v4 := zeroValue4
 t5 := underlying5
 a5 := isAgg5
 z5 := sizeOf5
 v5 := zeroValue5
 t9 := underlying9
 a9 := isAgg9
 z9 := sizeOf9
 v9 := zeroValue9
 t37 := underlying28
 a37 := isAgg28
 z37 := sizeOf28
 v37 := zeroValue28
 t46 := underlying39
 a46 := isAgg39
 z46 := sizeOf39
 v46 := zeroValue39
 t51 := underlying106
 a51 := isAgg106
 z51 := sizeOf106
 v51 := zeroValue106
 t146 := underlying161
 a146 := isAgg161
 z146 := sizeOf161
 v146 := zeroValue161
 g1 := by kernel_rfl }
open Go.RowKit Go.Lib in
theorem Tryz.bytes_Index_longer (p q : Option Addr) (n c m d : Nat) (w : World) (h2 : 2 ≤ m) (hnm : n < m) (hm : m ≤ 9223372036854775807) :
 Calls Tryz.prog 89 #[.slice p n c,.slice q m d] w fun e w' => e = .returned (.int .i64 (-1)) ∧ w' = w := Any.bytes_Index_longer Tryz.lays185 p q n c m d w h2 hnm hm
open Go.Proofs Go.RowKit Go.Lib in
theorem Tryz.bytes_Index_at (a1 a2 : Addr) (n c1 k c2 : Nat) (xs ys : List Int) (m : Int) (w : World) (hx : xs.length = n) (hy : ys.length = k) (hr1 : ∀ x ∈ xs,0 ≤ x ∧ x < 256) (hr2 : ∀ y ∈ ys,0 ≤ y ∧ y < 256) (hc1 : ∀ i,i < n → w.cell? (a1.add i) = some (.int .u8 (xs.getD i 0))) (hc2 : ∀ i,i < k → w.cell? (a2.add i) = some (.int .u8 (ys.getD i 0))) (hcap : n ≤ c1) (hs : n < 4294967281) (hk : k ≤ 9223372036854775807) (hm : w.cell? ⟨0,0,none⟩ = some (.int .i64 m)) :
 Calls Tryz.prog 89 #[.slice (some a1) n c1,.slice (some a2) k c2] w fun e w' => e = .returned (.int .i64 (Lib.index (Lib.bytesOf xs) (Lib.bytesOf ys))) ∧ ∃ q,w' = w.drewN q := Any.bytes_Index_at Tryz.lays185 a1 a2 n c1 k c2 xs ys m w hx hy hr1 hr2 hc1 hc2 hcap hs hk hm
def Tryz.laysSlT4_ren : Go.Shelf.Ren := ⟨fun | 4 => 74 | 5 => 89 | 6 => 103 | 7 => 72 | 8 => 104 | 9 => 105 | 10 => 106 | 11 => 131 | 12 => 132 | n => n,fun | 22 => 28 | 4 => 4 | 3 => 3 | 0 => 0 | 5 => 5 | 29 => 39 | 9 => 9 | 31 => 161 | 30 => 106 | n => n,fun | 0 => 0 | n => n⟩
theorem Tryz.laysSlT4 : Go.Proofs.SlLaysT.n4 Tryz.prog Tryz.laysSlT4_ren := {
 mixed := by kernel_rfl
 f4 := func74.trans (congrArg some (by kernel_rfl))
 f5 := func89.trans (congrArg some (by kernel_rfl))
 f6 := func103.trans (congrArg some (by kernel_rfl))
 f7 := func72.trans (congrArg some (by kernel_rfl))
 f8 := func104.trans (congrArg some (by kernel_rfl))
 f9 := func105.trans (congrArg some (by kernel_rfl))
 f10 := func106.trans (congrArg some (by kernel_rfl))
 f11 := func131.trans (congrArg some (by kernel_rfl))
 f12 := func132.trans (congrArg some (by kernel_rfl))
 t0 := underlying0
 a0 := isAgg0
 z0 := sizeOf0
 v0 := zeroValue0
 t3 := underlying3
 a3 := isAgg3
 z3 := sizeOf3
 v3 := zeroValue3
 t4 := underlying4
 a4 := isAgg4
 z4 := sizeOf4
 v4 := zeroValue4
 t5 := underlying5
 a5 := isAgg5
 z5 := sizeOf5
 v5 := zeroValue5
 t9 := underlying9
 a9 := isAgg9
 z9 := sizeOf9
 v9 := zeroValue9
 t22 := underlying28
 a22 := isAgg28
 z22 := sizeOf28
 v22 := zeroValue28
 t29 := underlying39
 a29 := isAgg39
 z29 := sizeOf39
 v29 := zeroValue39
 t30 := underlying106
 a30 := isAgg106
 z30 := sizeOf106
 v30 := zeroValue106
 t31 := underlying161
 a31 := isAgg161
 z31 := sizeOf161
 v31 := zeroValue161
 g0 := by kernel_rfl }
theorem Tryz.bytes_Cut_all (p1 p2 : Option Addr) (n c1 k c2 : Nat) (xs ys : List Int) (m : Int) (w : World) (hx : xs.length = n) (hy : ys.length = k) (hr1 : ∀ x ∈ xs,0 ≤ x ∧ x < 256) (hr2 : ∀ y ∈ ys,0 ≤ y ∧ y < 256) (h1 : Lib.BytesIn w p1 n xs) (h2 : Lib.BytesIn w p2 k ys) (hp1 : p1 = none → c1 = 0) (hcap : n ≤ c1) (hs : n < 4294967281) (hk : k ≤ 9223372036854775807) (hm : w.cell? ⟨0,0,none⟩ = some (.int .i64 m)) :
 Calls Tryz.prog 74 #[.slice p1 n c1,.slice p2 k c2] w fun e w' => e = .returned (Lib.cutV p1 n c1 k (Lib.index (Lib.bytesOf xs) (Lib.bytesOf ys))) ∧ ∃ q,w' = w.drewN q := Any.bytes_Cut_all Tryz.laysSlT4 p1 p2 n c1 k c2 xs ys m w hx hy hr1 hr2 h1 h2 hp1 hcap hs hk hm
def Tryz.lays240x_ren : Go.Shelf.Ren := ⟨fun | 240 => 145 | 276 => 172 | n => n,fun | 0 => 0 | 4 => 4 | 9 => 9 | 20 => 20 | 37 => 28 | 70 => 151 | 72 => 153 | 164 => 195 | n => n,fun | n => n⟩
theorem Tryz.lays240x : Go.Proofs.Lays.n240 Tryz.prog Tryz.lays240x_ren := {
 mixed := by kernel_rfl
 f240 := func145.trans (congrArg some (by kernel_rfl))
 f276 := func172.trans (congrArg some (by kernel_rfl))
 t0 := underlying0
 a0 := isAgg0
 z0 := sizeOf0
 v0 := zeroValue0
 t4 := underlying4
 a4 := isAgg4
 z4 := sizeOf4
 v4 := zeroValue4
 t9 := underlying9
 a9 := isAgg9
 z9 := sizeOf9
 v9 := zeroValue9
 t20 := underlying20
 a20 := isAgg20
 z20 := sizeOf20
 v20 := zeroValue20
 t70 := underlying151
 a70 := isAgg151
 z70 := sizeOf151
 v70 := zeroValue151
 t72 := underlying153
 a72 := isAgg153
 z72 := sizeOf153
 v72 := zeroValue153
 t164 := underlying195
 a164 := isAgg195
 z164 := sizeOf195
 v164 := zeroValue195 }
theorem Tryz.Builder_X72_240x : Builder.X72 Tryz.prog Tryz.lays240x_ren := {
 sizeBuilder := by kernel_rfl
 liesBuilder := by kernel_rfl }
open Go.RowKit in
theorem Tryz.Builder_copyCheck_fresh (b : Nat) (w : World) (h0 : w.cell? ⟨b,0,none⟩ = some (.pointer none)) (hsh : w.shape? b = some (153,2)) (hfz : w.frozen? ⟨b,0,none⟩ = false) :
 Calls Tryz.prog 145 #[.pointer (some ⟨b,0,none⟩)] w fun e w' => e = .returned (.tuple #[]) ∧ w' = w.setCell ⟨b,0,none⟩ (.pointer (some ⟨b,0,none⟩)) := Any.Builder_copyCheck_fresh Tryz.lays240x Tryz.Builder_X72_240x b w h0 hsh hfz
open Go.RowKit in
theorem Tryz.Builder_copyCheck_used (b : Nat) (w : World) (h0 : w.cell? ⟨b,0,none⟩ = some (.pointer (some ⟨b,0,none⟩))) :
 Calls Tryz.prog 145 #[.pointer (some ⟨b,0,none⟩)] w fun e w' => e = .returned (.tuple #[]) ∧ w' = w := Any.Builder_copyCheck_used Tryz.lays240x Tryz.Builder_X72_240x b w h0
end Go.Proofs
