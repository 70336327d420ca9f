import Derived.Shelf.Strings.Builder1
import Derived.Shelf.Strings.Builder2
import Derived.Shelf.Strings.OnBuilder
import Derived.Shelf.Small.Utf8
import Derived.Shelf.Small.Strs
import Derived.Shelf.Strings.BuilderF
import Derived.Shelf.Utf8.RuneCount
import Derived.Shelf.Strconv.Atoi
import Derived.Shelf.Strconv.Itoa0
import Derived.Shelf.Strconv.Itoa1
import Derived.Shelf.LaysM
import Derived.Shelf.Strconv.Itoa2
import Derived.Shelf.Strconv.Itoa3
import Derived.Shelf.Strconv.AtoiErrFast
import Derived.Shelf.Strconv.ParseIntEmpty
import Derived.Shelf.Strconv.AtoiFail
import Derived.Shelf.Strconv.Clone
import Derived.Shelf.Strconv.SyntaxError
import Derived.Shelf.LaysC
import Derived.Shelf.Strconv.ToError
import Derived.Shelf.Strconv.AtoiErr
import Derived.Shelf.Strings.Search1
import Derived.Shelf.Strings.Search2
import Derived.Shelf.Strings.Search3
import Derived.Shelf.Strings.Cut
import Derived.Shelf.Strings.Count
import Derived.Shelf.Strings.Shaped
import Derived.Shelf.Strings.Prefix
import Derived.Shelf.Strings.Split
import Derived.Shelf.Strings.SplitShaped
import Derived.Shelf.Unicode.Decode
import Derived.Shelf.Strings.RuneCount
import Derived.Shelf.Strings.Explode
import Derived.Shelf.Bits.Mul64
import Derived.Shelf.Strings.Repeat
import Derived.Shelf.Unicode.DecodeSlow
import Derived.Shelf.Unicode.DecodeAny
import Derived.Shelf.Slices.Reverse
import Derived.Ground.Names2Prog
import Derived.Shelf.Slices.Clone
import Derived.Shelf.Slices.SearchI
import Derived.Shelf.Slices.Cells
import Derived.Shelf.Bytes.SlIndexSmall
import Derived.Shelf.Slices.Empties
import Derived.Shelf.Bytes.SlIndexAt
import Derived.Shelf.Bytes.SlSearch0
import Derived.Shelf.Bytes.SlSearch1
import Derived.Shelf.Bytes.SlSearch2
import Derived.Shelf.Bytes.SlIndexWhole
import Derived.Ground.SlgnProg
import Derived.Shelf.SlicesE.Clone
import Derived.Ground.SlsfProg
import Derived.Shelf.SlSortCmp.Insertion
import Derived.Shelf.Bytes.SlSmallAll
import Derived.Ground.SlbtProg
import Derived.Shelf.Bytes.SlCut
import Derived.Shelf.Bytes.Small
import Derived.Shelf.Bytes.IndexByte
import Derived.Test.YtckpeedhchjjnaaGreatDoorProg
namespace Go.Proofs
open Tryz
open Go.Shelf
def Tryz.lays137_ren : Go.Shelf.Ren := ⟨fun | 137 => 249 | 217 => 267 | 266 => 270 | n => n,fun | 9 => 9 | 5 => 5 | 3 => 3 | n => n,fun | n => n⟩
theorem Tryz.lays137 : Go.Proofs.Lays.n137 Tryz.prog Tryz.lays137_ren := {
 mixed := by kernel_rfl
 f137 := func249.trans (congrArg some (by kernel_rfl))
 f217 := func267.trans (congrArg some (by kernel_rfl))
 f266 := func270.trans (congrArg some (by kernel_rfl))
 t3 := underlying3
 a3 := isAgg3
 z3 := sizeOf3
 v3 := zeroValue3
 t5 := underlying5
 a5 := isAgg5
 z5 := sizeOf5
 v5 := zeroValue5
 t9 := underlying9
 a9 := isAgg9
 z9 := sizeOf9
 v9 := zeroValue9 }
open Go.RowKit in
theorem Tryz.strings_IndexByte (s : ByteArray) (c : Int) (w : World) :
 Calls Tryz.prog 249 #[.string s,.int .u8 c] w fun e w' => e = .returned (.int .i64 (Lib.indexByte s.data.toList c.toNat.toUInt8)) ∧ w' = w := Any.strings_IndexByte Tryz.lays137 s c w
def Tryz.lays172_ren : Go.Shelf.Ren := ⟨fun | 172 => 203 | 244 => 246 | 245 => 247 | 247 => 296 | 279 => 297 | 280 => 298 | 281 => 299 | 282 => 300 | 287 => 337 | 316 => 338 | 171 => 169 | 205 => 339 | 321 => 354 | 322 => 355 | 243 => 209 | 246 => 250 | 283 => 301 | 284 => 302 | 285 => 303 | 286 => 304 | 129 => 341 | 317 => 340 | 318 => 342 | 319 => 343 | 320 => 344 | 337 => 356 | 338 => 357 | n => n,fun | 9 => 9 | 3 => 3 | 75 => 249 | 76 => 250 | 4 => 4 | 5 => 5 | 167 => 367 | 37 => 30 | 0 => 0 | 85 => 368 | 2 => 2 | 168 => 370 | 53 => 358 | 175 => 410 | 46 => 44 | 210 => 413 | 127 => 297 | 145 => 429 | 143 => 427 | 21 => 21 | 171 => 373 | 173 => 376 | 212 => 416 | 51 => 259 | 20 => 20 | 213 => 417 | 232 => 433 | 233 => 361 | 80 => 252 | n => n,fun | 15 => 5 | 16 => 6 | 17 => 7 | 18 => 10 | 19 => 11 | n => n⟩
theorem Tryz.lays172 : Go.Proofs.Lays.n172 Tryz.prog Tryz.lays172_ren := {
 mixed := by kernel_rfl
 f129 := func341.trans (congrArg some (by kernel_rfl))
 f171 := func169.trans (congrArg some (by kernel_rfl))
 f172 := func203.trans (congrArg some (by kernel_rfl))
 f205 := func339.trans (congrArg some (by kernel_rfl))
 f243 := func209.trans (congrArg some (by kernel_rfl))
 f244 := func246.trans (congrArg some (by kernel_rfl))
 f245 := func247.trans (congrArg some (by kernel_rfl))
 f246 := func250.trans (congrArg some (by kernel_rfl))
 f247 := func296.trans (congrArg some (by kernel_rfl))
 f279 := func297.trans (congrArg some (by kernel_rfl))
 f280 := func298.trans (congrArg some (by kernel_rfl))
 f281 := func299.trans (congrArg some (by kernel_rfl))
 f282 := func300.trans (congrArg some (by kernel_rfl))
 f283 := func301.trans (congrArg some (by kernel_rfl))
 f284 := func302.trans (congrArg some (by kernel_rfl))
 f285 := func303.trans (congrArg some (by kernel_rfl))
 f286 := func304.trans (congrArg some (by kernel_rfl))
 f287 := func337.trans (congrArg some (by kernel_rfl))
 f316 := func338.trans (congrArg some (by kernel_rfl))
 f317 := func340.trans (congrArg some (by kernel_rfl))
 f318 := func342.trans (congrArg some (by kernel_rfl))
 f319 := func343.trans (congrArg some (by kernel_rfl))
 f320 := func344.trans (congrArg some (by kernel_rfl))
 f321 := func354.trans (congrArg some (by kernel_rfl))
 f322 := func355.trans (congrArg some (by kernel_rfl))
 f337 := func356.trans (congrArg some (by kernel_rfl))
 f338 := func357.trans (congrArg some (by kernel_rfl))
 t0 := underlying0
 a0 := isAgg0
 z0 := sizeOf0
 v0 := zeroValue0
 t2 := underlying2
 a2 := isAgg2
 z2 := sizeOf2
 v2 := zeroValue2
 t3 := underlying3
 a3 := isAgg3
 z3 := sizeOf3
 v3 := zeroValue3
 t4 := underlying4
 a4 := isAgg4
 z4 := sizeOf4
 v4 := zeroValue4
 t5 := underlying5
 a5 := isAgg5
 z5 := sizeOf5
 v5 := zeroValue5
 t9 := underlying9
 a9 := isAgg9
 z9 := sizeOf9
 v9 := zeroValue9
 t20 := underlying20
 a20 := isAgg20
 z20 := sizeOf20
 v20 := zeroValue20
 t21 := underlying21
 a21 := isAgg21
 z21 := sizeOf21
 v21 := zeroValue21
 t37 := underlying30
 a37 := isAgg30
 z37 := sizeOf30
 v37 := zeroValue30
 t46 := underlying44
 a46 := isAgg44
 z46 := sizeOf44
 v46 := zeroValue44
 t51 := underlying259
 a51 := isAgg259
 z51 := sizeOf259
 v51 := zeroValue259
 t53 := underlying358
 a53 := isAgg358
 z53 := sizeOf358
 v53 := zeroValue358
 t75 := underlying249
 a75 := isAgg249
 z75 := sizeOf249
 v75 := zeroValue249
 t76 := underlying250
 a76 := isAgg250
 z76 := sizeOf250
 v76 := zeroValue250
 t85 := underlying368
 a85 := isAgg368
 z85 := sizeOf368
 v85 := zeroValue368
 t127 := underlying297
 a127 := isAgg297
 z127 := sizeOf297
 v127 := zeroValue297
 t143 := underlying427
 a143 := isAgg427
 z143 := sizeOf427
 v143 := zeroValue427
 t145 := underlying429
 a145 := isAgg429
 z145 := sizeOf429
 v145 := zeroValue429
 t167 := underlying367
 a167 := isAgg367
 z167 := sizeOf367
 v167 := zeroValue367
 t168 := underlying370
 a168 := isAgg370
 z168 := sizeOf370
 v168 := zeroValue370
 t171 := underlying373
 a171 := isAgg373
 z171 := sizeOf373
 v171 := zeroValue373
 t173 := underlying376
 a173 := isAgg376
 z173 := sizeOf376
 v173 := zeroValue376
 t175 := underlying410
 a175 := isAgg410
 z175 := sizeOf410
 v175 := zeroValue410
 t210 := underlying413
 a210 := isAgg413
 z210 := sizeOf413
 v210 := zeroValue413
 t212 := underlying416
 a212 := isAgg416
 z212 := sizeOf416
 v212 := zeroValue416
 t213 := underlying417
 a213 := isAgg417
 z213 := sizeOf417
 t232 := underlying433
 a232 := isAgg433
 z232 := sizeOf433
 v232 := zeroValue433
 t233 := underlying361
 a233 := isAgg361
 z233 := sizeOf361
 v233 := zeroValue361
 g15 := by kernel_rfl
 g16 := by kernel_rfl
 g17 := by kernel_rfl
 g18 := by kernel_rfl
 g19 := by kernel_rfl }
open Go.RowKit in
theorem Tryz.strconv_Atoi (s : ByteArray) (n : Int) (hl : s.size ≤ 18) (h : Lib.atoi s.data.toList = some n) (w : World) :
 Calls Tryz.prog 203 #[.string s] w fun e w' => e = .returned (.tuple #[.int .i64 n,.nilIface]) ∧ ∃ t,w' = Lib.bytesWorld w 5 t := Any.strconv_Atoi Tryz.lays172 s n hl h w
def Tryz.laysM171_ren : Go.Shelf.Ren := ⟨fun | 171 => 169 | 243 => 209 | 246 => 250 | 283 => 301 | 284 => 302 | 285 => 303 | 286 => 304 | 129 => 341 | 317 => 340 | 318 => 342 | 319 => 343 | 320 => 344 | 337 => 356 | 338 => 357 | n => n,fun | 3 => 3 | 9 => 9 | 2 => 2 | 4 => 4 | 171 => 373 | 0 => 0 | 53 => 358 | 37 => 30 | 5 => 5 | 173 => 376 | 212 => 416 | 51 => 259 | 20 => 20 | 213 => 417 | 46 => 44 | 232 => 433 | 233 => 361 | n => n,fun | 17 => 7 | 18 => 10 | 19 => 11 | n => n⟩
theorem Tryz.laysM171 : Go.Proofs.LaysM.n171 Tryz.prog Tryz.laysM171_ren := {
 mixed := by kernel_rfl
 f129 := func341.trans (congrArg some (by kernel_rfl))
 f171 := func169.trans (congrArg some (by kernel_rfl))
 f243 := func209.trans (congrArg some (by kernel_rfl))
 f246 := func250.trans (congrArg some (by kernel_rfl))
 f283 := func301.trans (congrArg some (by kernel_rfl))
 f284 := func302.trans (congrArg some (by kernel_rfl))
 f285 := func303.trans (congrArg some (by kernel_rfl))
 f286 := func304.trans (congrArg some (by kernel_rfl))
 f317 := func340.trans (congrArg some (by kernel_rfl))
 f318 := func342.trans (congrArg some (by kernel_rfl))
 f319 := func343.trans (congrArg some (by kernel_rfl))
 f320 := func344.trans (congrArg some (by kernel_rfl))
 f337 := func356.trans (congrArg some (by kernel_rfl))
 f338 := func357.trans (congrArg some (by kernel_rfl))
 t0 := underlying0
 a0 := isAgg0
 z0 := sizeOf0
 v0 := zeroValue0
 t2 := underlying2
 a2 := isAgg2
 z2 := sizeOf2
 v2 := zeroValue2
 t3 := underlying3
 a3 := isAgg3
 z3 := sizeOf3
 v3 := zeroValue3
 t4 := underlying4
 a4 := isAgg4
 z4 := sizeOf4
 v4 := zeroValue4
 t5 := underlying5
 a5 := isAgg5
 z5 := sizeOf5
 v5 := zeroValue5
 t9 := underlying9
 a9 := isAgg9
 z9 := sizeOf9
 v9 := zeroValue9
 t20 := underlying20
 a20 := isAgg20
 z20 := sizeOf20
 v20 := zeroValue20
 t37 := underlying30
 a37 := isAgg30
 z37 := sizeOf30
 v37 := zeroValue30
 t46 := underlying44
 a46 := isAgg44
 z46 := sizeOf44
 v46 := zeroValue44
 t51 := underlying259
 a51 := isAgg259
 z51 := sizeOf259
 v51 := zeroValue259
 t53 := underlying358
 a53 := isAgg358
 z53 := sizeOf358
 v53 := zeroValue358
 t171 := underlying373
 a171 := isAgg373
 z171 := sizeOf373
 v171 := zeroValue373
 t173 := underlying376
 a173 := isAgg376
 z173 := sizeOf376
 v173 := zeroValue376
 t212 := underlying416
 a212 := isAgg416
 z212 := sizeOf416
 v212 := zeroValue416
 t213 := underlying417
 a213 := isAgg417
 z213 := sizeOf417
 t232 := underlying433
 a232 := isAgg433
 z232 := sizeOf433
 v232 := zeroValue433
 t233 := underlying361
 a233 := isAgg361
 z233 := sizeOf361
 v233 := zeroValue361
 g17 := by kernel_rfl
 g18 := by kernel_rfl
 g19 := by kernel_rfl
 i0 := by kernel_rfl
 i2 := by kernel_rfl
 i3 := by kernel_rfl
 i4 := by kernel_rfl
 i5 := by kernel_rfl
 i9 := by kernel_rfl
 i20 := by kernel_rfl
 i37 := by kernel_rfl
 i46 := by kernel_rfl
 i51 := by kernel_rfl
 i53 := by kernel_rfl
 i171 := by kernel_rfl
 i173 := by kernel_rfl
 i212 := by kernel_rfl
 i232 := by kernel_rfl
 i233 := by kernel_rfl
 m17 := by kernel_rfl
 m18 := by kernel_rfl
 m19 := by kernel_rfl }
open Go.RowKit Go.Sort Go.Lib in
theorem Tryz.strconv_Itoa (n : Int) (h0 : -9223372036854775808 ≤ n) (h1 : n ≤ 9223372036854775807) (w : World) (htab : Lib.TabIs Tryz.prog w "internal/strconv.uint64pow10" .u64 Lib.pow10Tab) :
 Calls Tryz.prog 169 #[.int .i64 n] w fun e w' => e = .returned (.string ⟨(Lib.itoa n).toArray⟩) ∧ ∃ k os,w' = grow (w.drewN k) os := Any.strconv_Itoa Tryz.laysM171 n h0 h1 w htab
def Tryz.laysC172_ren : Go.Shelf.Ren := ⟨fun | 172 => 203 | 244 => 246 | 245 => 247 | 247 => 296 | 279 => 297 | 280 => 298 | 281 => 299 | 282 => 300 | 287 => 337 | 316 => 338 | 171 => 169 | 205 => 339 | 321 => 354 | 322 => 355 | 243 => 209 | 246 => 250 | 283 => 301 | 284 => 302 | 285 => 303 | 286 => 304 | 129 => 341 | 317 => 340 | 318 => 342 | 319 => 343 | 320 => 344 | 337 => 356 | 338 => 357 | n => n,fun | 9 => 9 | 3 => 3 | 75 => 249 | 76 => 250 | 4 => 4 | 5 => 5 | 167 => 367 | 37 => 30 | 0 => 0 | 85 => 368 | 2 => 2 | 168 => 370 | 53 => 358 | 175 => 410 | 46 => 44 | 210 => 413 | 127 => 297 | 145 => 429 | 143 => 427 | 21 => 21 | 171 => 373 | 173 => 376 | 212 => 416 | 51 => 259 | 20 => 20 | 213 => 417 | 232 => 433 | 233 => 361 | 80 => 252 | n => n,fun | 15 => 5 | 16 => 6 | 17 => 7 | 18 => 10 | 19 => 11 | n => n⟩
theorem Tryz.laysC172 : Go.Proofs.LaysC.n172 Tryz.prog Tryz.laysC172_ren := {
 mixed := by kernel_rfl
 f129 := func341.trans (congrArg some (by kernel_rfl))
 f171 := func169.trans (congrArg some (by kernel_rfl))
 f172 := func203.trans (congrArg some (by kernel_rfl))
 f205 := func339.trans (congrArg some (by kernel_rfl))
 f243 := func209.trans (congrArg some (by kernel_rfl))
 f244 := func246.trans (congrArg some (by kernel_rfl))
 f245 := func247.trans (congrArg some (by kernel_rfl))
 f246 := func250.trans (congrArg some (by kernel_rfl))
 f247 := func296.trans (congrArg some (by kernel_rfl))
 f279 := func297.trans (congrArg some (by kernel_rfl))
 f280 := func298.trans (congrArg some (by kernel_rfl))
 f281 := func299.trans (congrArg some (by kernel_rfl))
 f282 := func300.trans (congrArg some (by kernel_rfl))
 f283 := func301.trans (congrArg some (by kernel_rfl))
 f284 := func302.trans (congrArg some (by kernel_rfl))
 f285 := func303.trans (congrArg some (by kernel_rfl))
 f286 := func304.trans (congrArg some (by kernel_rfl))
 f287 := func337.trans (congrArg some (by kernel_rfl))
 f316 := func338.trans (congrArg some (by kernel_rfl))
 f317 := func340.trans (congrArg some (by kernel_rfl))
 f318 := func342.trans (congrArg some (by kernel_rfl))
 f319 := func343.trans (congrArg some (by kernel_rfl))
 f320 := func344.trans (congrArg some (by kernel_rfl))
 f321 := func354.trans (congrArg some (by kernel_rfl))
 f322 := func355.trans (congrArg some (by kernel_rfl))
 f337 := func356.trans (congrArg some (by kernel_rfl))
 f338 := func357.trans (congrArg some (by kernel_rfl))
 t0 := underlying0
 a0 := isAgg0
 z0 := sizeOf0
 v0 := zeroValue0
 t2 := underlying2
 a2 := isAgg2
 z2 := sizeOf2
 v2 := zeroValue2
 t3 := underlying3
 a3 := isAgg3
 z3 := sizeOf3
 v3 := zeroValue3
 t4 := underlying4
 a4 := isAgg4
 z4 := sizeOf4
 v4 := zeroValue4
 t5 := underlying5
 a5 := isAgg5
 z5 := sizeOf5
 v5 := zeroValue5
 t9 := underlying9
 a9 := isAgg9
 z9 := sizeOf9
 v9 := zeroValue9
 t20 := underlying20
 a20 := isAgg20
 z20 := sizeOf20
 v20 := zeroValue20
 t21 := underlying21
 a21 := isAgg21
 z21 := sizeOf21
 v21 := zeroValue21
 t37 := underlying30
 a37 := isAgg30
 z37 := sizeOf30
 v37 := zeroValue30
 t46 := underlying44
 a46 := isAgg44
 z46 := sizeOf44
 v46 := zeroValue44
 t51 := underlying259
 a51 := isAgg259
 z51 := sizeOf259
 v51 := zeroValue259
 t53 := underlying358
 a53 := isAgg358
 z53 := sizeOf358
 v53 := zeroValue358
 t75 := underlying249
 a75 := isAgg249
 z75 := sizeOf249
 v75 := zeroValue249
 t76 := underlying250
 a76 := isAgg250
 z76 := sizeOf250
 v76 := zeroValue250
 t85 := underlying368
 a85 := isAgg368
 z85 := sizeOf368
 v85 := zeroValue368
 t127 := underlying297
 a127 := isAgg297
 z127 := sizeOf297
 v127 := zeroValue297
 t143 := underlying427
 a143 := isAgg427
 z143 := sizeOf427
 v143 := zeroValue427
 t145 := underlying429
 a145 := isAgg429
 z145 := sizeOf429
 v145 := zeroValue429
 t167 := underlying367
 a167 := isAgg367
 z167 := sizeOf367
 v167 := zeroValue367
 t168 := underlying370
 a168 := isAgg370
 z168 := sizeOf370
 v168 := zeroValue370
 t171 := underlying373
 a171 := isAgg373
 z171 := sizeOf373
 v171 := zeroValue373
 t173 := underlying376
 a173 := isAgg376
 z173 := sizeOf376
 v173 := zeroValue376
 t175 := underlying410
 a175 := isAgg410
 z175 := sizeOf410
 v175 := zeroValue410
 t210 := underlying413
 a210 := isAgg413
 z210 := sizeOf413
 v210 := zeroValue413
 t212 := underlying416
 a212 := isAgg416
 z212 := sizeOf416
 v212 := zeroValue416
 t213 := underlying417
 a213 := isAgg417
 z213 := sizeOf417
 t232 := underlying433
 a232 := isAgg433
 z232 := sizeOf433
 v232 := zeroValue433
 t233 := underlying361
 a233 := isAgg361
 z233 := sizeOf361
 v233 := zeroValue361
 g15 := by kernel_rfl
 g16 := by kernel_rfl
 g17 := by kernel_rfl
 g18 := by kernel_rfl
 g19 := by kernel_rfl
 t80 := underlying252
 a80 := isAgg252
 z80 := sizeOf252
 v80 := zeroValue252
 i0 := by kernel_rfl
 i2 := by kernel_rfl
 i3 := by kernel_rfl
 i4 := by kernel_rfl
 i5 := by kernel_rfl
 i9 := by kernel_rfl
 i20 := by kernel_rfl
 i21 := by kernel_rfl
 i37 := by kernel_rfl
 i46 := by kernel_rfl
 i51 := by kernel_rfl
 i53 := by kernel_rfl
 i75 := by kernel_rfl
 i76 := by kernel_rfl
 i80 := by kernel_rfl
 i85 := by kernel_rfl
 i127 := by kernel_rfl
 i143 := by kernel_rfl
 i145 := by kernel_rfl
 i167 := by kernel_rfl
 i168 := by kernel_rfl
 i171 := by kernel_rfl
 i173 := by kernel_rfl
 i175 := by kernel_rfl
 i210 := by kernel_rfl
 i212 := by kernel_rfl
 i232 := by kernel_rfl
 i233 := by kernel_rfl
 m15 := by kernel_rfl
 m16 := by kernel_rfl
 m17 := by kernel_rfl
 m18 := by kernel_rfl
 m19 := by kernel_rfl
 c0 := by kernel_rfl
 c2 := by kernel_rfl
 c3 := by kernel_rfl
 c4 := by kernel_rfl
 c5 := by kernel_rfl
 c9 := by kernel_rfl
 c20 := by kernel_rfl
 c21 := by kernel_rfl
 c37 := by kernel_rfl
 c46 := by kernel_rfl
 c51 := by kernel_rfl
 c53 := by kernel_rfl
 c75 := by kernel_rfl
 c76 := by kernel_rfl
 c80 := by kernel_rfl
 c85 := by kernel_rfl
 c127 := by kernel_rfl
 c143 := by kernel_rfl
 c145 := by kernel_rfl
 c167 := by kernel_rfl
 c168 := by kernel_rfl
 c171 := by kernel_rfl
 c173 := by kernel_rfl
 c175 := by kernel_rfl
 c210 := by kernel_rfl
 c212 := by kernel_rfl
 c213 := by kernel_rfl
 c232 := by kernel_rfl
 c233 := by kernel_rfl }
open Go.RowKit in
theorem Tryz.strconv_Atoi_err (s : ByteArray) (hl : s.size ≤ 18) (h : Lib.atoi s.data.toList = none) (ev : Value) (w : World) (hv : w.cell? ⟨5,0,none⟩ = some ev) (hev : ev = .nilIface ∨ ∃ te pe,ev = .iface te pe) :
 Calls Tryz.prog 203 #[.string s] w fun e w' => ∃ N,e = .returned (.tuple #[.int .i64 0,.iface 370 (.pointer (some ⟨N,0,none⟩))]) ∧ w.heap.size ≤ N ∧ w'.heap[N]? = some (.cells #[.string ⟨#[65,116,111,105]⟩,.string s,ev] 413 (0,0)) ∧ Below w.heap.size w w' := Any.strconv_Atoi_err Tryz.laysC172 s hl h ev w hv hev
def Tryz.lays219_ren : Go.Shelf.Ren := ⟨fun | 219 => 223 | 217 => 267 | 225 => 268 | 224 => 152 | 267 => 269 | 266 => 270 | 314 => 318 | n => n,fun | 9 => 9 | 3 => 3 | 4 => 4 | 5 => 5 | 46 => 44 | 146 => 266 | 51 => 259 | n => n,fun | 1 => 0 | n => n⟩
theorem Tryz.lays219 : Go.Proofs.Lays.n219 Tryz.prog Tryz.lays219_ren := {
 mixed := by kernel_rfl
 f217 := func267.trans (congrArg some (by kernel_rfl))
 f219 := func223.trans (congrArg some (by kernel_rfl))
 f224 := func152.trans (congrArg some (by kernel_rfl))
 f225 := func268.trans (congrArg some (by kernel_rfl))
 f266 := func270.trans (congrArg some (by kernel_rfl))
 f267 := func269.trans (congrArg some (by kernel_rfl))
 f314 := func318.trans (congrArg some (by kernel_rfl))
 t3 := underlying3
 a3 := isAgg3
 z3 := sizeOf3
 v3 := zeroValue3
 t4 := underlying4
 a4 := isAgg4
 z4 := sizeOf4
 v4 := zeroValue4
 t5 := underlying5
 a5 := isAgg5
 z5 := sizeOf5
 v5 := zeroValue5
 t9 := underlying9
 a9 := isAgg9
 z9 := sizeOf9
 v9 := zeroValue9
 t46 := underlying44
 a46 := isAgg44
 z46 := sizeOf44
 v46 := zeroValue44
 t51 := underlying259
 a51 := isAgg259
 z51 := sizeOf259
 v51 := zeroValue259
 t146 := underlying266
 a146 := isAgg266
 z146 := sizeOf266
 v146 := zeroValue266
 g1 := by kernel_rfl }
open Go.RowKit Go.Lib in
theorem Tryz.stringslite_Index_one (s : ByteArray) (c : UInt8) (w : World) :
 Calls Tryz.prog 223 #[.string s,.string ⟨#[c]⟩] w fun e w' => e = .returned (.int .i64 (Lib.indexByte s.data.toList c)) ∧ w' = w := Any.stringslite_Index_one Tryz.lays219 s c w
def Tryz.lays143_ren : Go.Shelf.Ren := ⟨fun | 143 => 176 | 219 => 223 | 217 => 267 | 225 => 268 | 224 => 152 | 267 => 269 | 266 => 270 | 314 => 318 | n => n,fun | 9 => 9 | 3 => 3 | 4 => 4 | 5 => 5 | 46 => 44 | 146 => 266 | 51 => 259 | n => n,fun | 1 => 0 | n => n⟩
theorem Tryz.lays143 : Go.Proofs.Lays.n143 Tryz.prog Tryz.lays143_ren := {
 mixed := by kernel_rfl
 f143 := func176.trans (congrArg some (by kernel_rfl))
 f217 := func267.trans (congrArg some (by kernel_rfl))
 f219 := func223.trans (congrArg some (by kernel_rfl))
 f224 := func152.trans (congrArg some (by kernel_rfl))
 f225 := func268.trans (congrArg some (by kernel_rfl))
 f266 := func270.trans (congrArg some (by kernel_rfl))
 f267 := func269.trans (congrArg some (by kernel_rfl))
 f314 := func318.trans (congrArg some (by kernel_rfl))
 t3 := underlying3
 a3 := isAgg3
 z3 := sizeOf3
 v3 := zeroValue3
 t4 := underlying4
 a4 := isAgg4
 z4 := sizeOf4
 v4 := zeroValue4
 t5 := underlying5
 a5 := isAgg5
 z5 := sizeOf5
 v5 := zeroValue5
 t9 := underlying9
 a9 := isAgg9
 z9 := sizeOf9
 v9 := zeroValue9
 t46 := underlying44
 a46 := isAgg44
 z46 := sizeOf44
 v46 := zeroValue44
 t51 := underlying259
 a51 := isAgg259
 z51 := sizeOf259
 v51 := zeroValue259
 t146 := underlying266
 a146 := isAgg266
 z146 := sizeOf266
 v146 := zeroValue266
 g1 := by kernel_rfl }
open Go.RowKit Go.Lib in
theorem Tryz.strings_Index_one (s : ByteArray) (c : UInt8) (w : World) :
 Calls Tryz.prog 176 #[.string s,.string ⟨#[c]⟩] w fun e w' => e = .returned (.int .i64 (Lib.indexByte s.data.toList c)) ∧ w' = w := Any.strings_Index_one Tryz.lays143 s c w
def Tryz.laysNm215_ren : Go.Shelf.Ren := ⟨fun | 15 => 261 | n => n,fun | 22 => 38 | 3 => 3 | 4 => 4 | n => n,fun | n => n⟩
theorem Tryz.laysNm215 : Go.Proofs.Lays2.n15 Tryz.prog Tryz.laysNm215_ren := {
 mixed := by kernel_rfl
 f15 := func261.trans (congrArg some (by kernel_rfl))
 t3 := underlying3
 a3 := isAgg3
 z3 := sizeOf3
 v3 := zeroValue3
 t4 := underlying4
 a4 := isAgg4
 z4 := sizeOf4
 v4 := zeroValue4
 t22 := underlying38
 a22 := isAgg38
 z22 := sizeOf38
 v22 := zeroValue38
 i3 := by kernel_rfl }
open Go.RowKit Go.Lib in
theorem Tryz.slices_Clone_int (b off n c : Nat) (zs : List Int) (w : World) (hz : n ≤ zs.length) (hbig : n * 8 ≤ 140737488355328) (hc : ∀ j,j < zs.length → w.cell? ⟨b,off + j,none⟩ = some (.int .i64 (zs.getD j 0))) :
 Calls Tryz.prog 261 #[.slice (some ⟨b,off,none⟩) n c] w fun e w' => ∃ v',e = .returned v' ∧ w'.ownsRow w.heap.size 3 1 v' n ((zs.take n).map (Value.int .i64)) ∧ v' ≠ .slice none 0 0 ∧ Below w.heap.size w w' := Any.slices_Clone_int Tryz.laysNm215 b off n c zs w hz hbig hc
open Go.RowKit Go.Lib in
theorem Tryz.slices_Clone_int_nil (n c : Nat) (w : World) :
 Calls Tryz.prog 261 #[.slice none n c] w fun e w' => e = .returned (.slice none 0 0) ∧ w' = w := Any.slices_Clone_int_nil Tryz.laysNm215 n c w
open Go.RowKit Go.Lib in
theorem Tryz.slices_Clone_int_zero (a : Addr) (c : Nat) (w : World) :
 Calls Tryz.prog 261 #[.slice (some a) 0 c] w fun e w' => ∃ v',e = .returned v' ∧ w'.ownsRow w.heap.size 3 1 v' 0 [] ∧ v' ≠ .slice none 0 0 ∧ Below w.heap.size w w' := Any.slices_Clone_int_zero Tryz.laysNm215 a c w
def Tryz.lays185_ren : Go.Shelf.Ren := ⟨fun | 185 => 119 | 187 => 150 | 115 => 84 | 253 => 151 | 224 => 152 | 254 => 153 | 255 => 195 | 291 => 196 | n => n,fun | 37 => 30 | 3 => 3 | 4 => 4 | 0 => 0 | 5 => 5 | 46 => 44 | 9 => 9 | 146 => 266 | 51 => 259 | n => n,fun | 1 => 0 | n => n⟩
theorem Tryz.lays185 : Go.Proofs.Lays.n185 Tryz.prog Tryz.lays185_ren := {
 mixed := by kernel_rfl
 f115 := func84.trans (congrArg some (by kernel_rfl))
 f185 := func119.trans (congrArg some (by kernel_rfl))
 f187 := func150.trans (congrArg some (by kernel_rfl))
 f224 := func152.trans (congrArg some (by kernel_rfl))
 f253 := func151.trans (congrArg some (by kernel_rfl))
 f254 := func153.trans (congrArg some (by kernel_rfl))
 f255 := func195.trans (congrArg some (by kernel_rfl))
 f291 := func196.trans (congrArg some (by kernel_rfl))
 t0 := underlying0
 a0 := isAgg0
 z0 := sizeOf0
 v0 := zeroValue0
 t3 := underlying3
 a3 := isAgg3
 z3 := sizeOf3
 v3 := zeroValue3
 t4 := underlying4
 a4 := isAgg4
 z4 := sizeOf4
 v4 := zeroValue4
 t5 := underlying5
 a5 := isAgg5
 z5 := sizeOf5
 v5 := zeroValue5
 t9 := underlying9
 a9 := isAgg9
 z9 := sizeOf9
 v9 := zeroValue9
 t37 := underlying30
 a37 := isAgg30
 z37 := sizeOf30
 v37 := zeroValue30
 t46 := underlying44
 a46 := isAgg44
 z46 := sizeOf44
 v46 := zeroValue44
 t51 := underlying259
 a51 := isAgg259
 z51 := sizeOf259
 v51 := zeroValue259
 t146 := underlying266
 a146 := isAgg266
 z146 := sizeOf266
 v146 := zeroValue266
 g1 := by kernel_rfl }
open Go.RowKit Go.Lib in
theorem Tryz.bytes_Index_longer (p q : Option Addr) (n c m d : Nat) (w : World) (h2 : 2 ≤ m) (hnm : n < m) (hm : m ≤ 9223372036854775807) :
 Calls Tryz.prog 119 #[.slice p n c,.slice q m d] w fun e w' => e = .returned (.int .i64 (-1)) ∧ w' = w := Any.bytes_Index_longer Tryz.lays185 p q n c m d w h2 hnm hm
open Go.Proofs Go.RowKit Go.Lib in
theorem Tryz.bytes_Index_at (a1 a2 : Addr) (n c1 k c2 : Nat) (xs ys : List Int) (m : Int) (w : World) (hx : xs.length = n) (hy : ys.length = k) (hr1 : ∀ x ∈ xs,0 ≤ x ∧ x < 256) (hr2 : ∀ y ∈ ys,0 ≤ y ∧ y < 256) (hc1 : ∀ i,i < n → w.cell? (a1.add i) = some (.int .u8 (xs.getD i 0))) (hc2 : ∀ i,i < k → w.cell? (a2.add i) = some (.int .u8 (ys.getD i 0))) (hcap : n ≤ c1) (hs : n < 4294967281) (hk : k ≤ 9223372036854775807) (hm : w.cell? ⟨0,0,none⟩ = some (.int .i64 m)) :
 Calls Tryz.prog 119 #[.slice (some a1) n c1,.slice (some a2) k c2] w fun e w' => e = .returned (.int .i64 (Lib.index (Lib.bytesOf xs) (Lib.bytesOf ys))) ∧ ∃ q,w' = w.drewN q := Any.bytes_Index_at Tryz.lays185 a1 a2 n c1 k c2 xs ys m w hx hy hr1 hr2 hc1 hc2 hcap hs hk hm
def Tryz.laysSlT4_ren : Go.Shelf.Ren := ⟨fun | 4 => 86 | 5 => 119 | 6 => 150 | 7 => 84 | 8 => 151 | 9 => 152 | 10 => 153 | 11 => 195 | 12 => 196 | n => n,fun | 22 => 30 | 4 => 4 | 3 => 3 | 0 => 0 | 5 => 5 | 29 => 44 | 9 => 9 | 31 => 266 | 30 => 259 | n => n,fun | 0 => 0 | n => n⟩
theorem Tryz.laysSlT4 : Go.Proofs.SlLaysT.n4 Tryz.prog Tryz.laysSlT4_ren := {
 mixed := by kernel_rfl
 f4 := func86.trans (congrArg some (by kernel_rfl))
 f5 := func119.trans (congrArg some (by kernel_rfl))
 f6 := func150.trans (congrArg some (by kernel_rfl))
 f7 := func84.trans (congrArg some (by kernel_rfl))
 f8 := func151.trans (congrArg some (by kernel_rfl))
 f9 := func152.trans (congrArg some (by kernel_rfl))
 f10 := func153.trans (congrArg some (by kernel_rfl))
 f11 := func195.trans (congrArg some (by kernel_rfl))
 f12 := func196.trans (congrArg some (by kernel_rfl))
 t0 := underlying0
 a0 := isAgg0
 z0 := sizeOf0
 v0 := zeroValue0
 t3 := underlying3
 a3 := isAgg3
 z3 := sizeOf3
 v3 := zeroValue3
 t4 := underlying4
 a4 := isAgg4
 z4 := sizeOf4
 v4 := zeroValue4
 t5 := underlying5
 a5 := isAgg5
 z5 := sizeOf5
 v5 := zeroValue5
 t9 := underlying9
 a9 := isAgg9
 z9 := sizeOf9
 v9 := zeroValue9
 t22 := underlying30
 a22 := isAgg30
 z22 := sizeOf30
 v22 := zeroValue30
 t29 := underlying44
 a29 := isAgg44
 z29 := sizeOf44
 v29 := zeroValue44
 t30 := underlying259
 a30 := isAgg259
 z30 := sizeOf259
 v30 := zeroValue259
 t31 := underlying266
 a31 := isAgg266
 z31 := sizeOf266
 v31 := zeroValue266
 g0 := by kernel_rfl }
theorem Tryz.bytes_Cut_all (p1 p2 : Option Addr) (n c1 k c2 : Nat) (xs ys : List Int) (m : Int) (w : World) (hx : xs.length = n) (hy : ys.length = k) (hr1 : ∀ x ∈ xs,0 ≤ x ∧ x < 256) (hr2 : ∀ y ∈ ys,0 ≤ y ∧ y < 256) (h1 : Lib.BytesIn w p1 n xs) (h2 : Lib.BytesIn w p2 k ys) (hp1 : p1 = none → c1 = 0) (hcap : n ≤ c1) (hs : n < 4294967281) (hk : k ≤ 9223372036854775807) (hm : w.cell? ⟨0,0,none⟩ = some (.int .i64 m)) :
 Calls Tryz.prog 86 #[.slice p1 n c1,.slice p2 k c2] w fun e w' => e = .returned (Lib.cutV p1 n c1 k (Lib.index (Lib.bytesOf xs) (Lib.bytesOf ys))) ∧ ∃ q,w' = w.drewN q := Any.bytes_Cut_all Tryz.laysSlT4 p1 p2 n c1 k c2 xs ys m w hx hy hr1 hr2 h1 h2 hp1 hcap hs hk hm
end Go.Proofs
