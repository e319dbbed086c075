/-
  The law LiftOther at some of its cases: the run over the program ends in true. Conditions: none; these are closed facts.
-/
import Derived.Test.YtmebdcipijgcnaaGreatDoorLiftOtherA
namespace Go.Proofs.YtmebdcipijgcnaaGreatDoor.liftOtherq
open Go.Rn YtmebdcipijgcnaaGreatDoor.txt
set_option maxHeartbeats 400000000
theorem n200 : run 200 = .yes := by kernel_rfl
theorem n201 : run 201 = .yes := by kernel_rfl
theorem n202 : run 202 = .yes := by kernel_rfl
theorem n203 : run 203 = .yes := by kernel_rfl
theorem n204 : run 204 = .yes := by kernel_rfl
theorem n205 : run 205 = .yes := by kernel_rfl
theorem n206 : run 206 = .yes := by kernel_rfl
theorem n207 : run 207 = .yes := by kernel_rfl
theorem n208 : run 208 = .yes := by kernel_rfl
theorem n209 : run 209 = .yes := by kernel_rfl
theorem n210 : run 210 = .yes := by kernel_rfl
theorem n211 : run 211 = .yes := by kernel_rfl
theorem n212 : run 212 = .yes := by kernel_rfl
theorem n213 : run 213 = .yes := by kernel_rfl
theorem n214 : run 214 = .yes := by kernel_rfl
theorem n215 : run 215 = .yes := by kernel_rfl
theorem n216 : run 216 = .yes := by kernel_rfl
theorem n217 : run 217 = .yes := by kernel_rfl
theorem n218 : run 218 = .yes := by kernel_rfl
theorem n219 : run 219 = .yes := by kernel_rfl
theorem n220 : run 220 = .yes := by kernel_rfl
theorem n221 : run 221 = .yes := by kernel_rfl
theorem n222 : run 222 = .yes := by kernel_rfl
theorem n223 : run 223 = .yes := by kernel_rfl
theorem n224 : run 224 = .yes := by kernel_rfl
theorem n225 : run 225 = .yes := by kernel_rfl
theorem n226 : run 226 = .yes := by kernel_rfl
theorem n227 : run 227 = .yes := by kernel_rfl
theorem n228 : run 228 = .yes := by kernel_rfl
theorem n229 : run 229 = .yes := by kernel_rfl
theorem n230 : run 230 = .yes := by kernel_rfl
theorem n231 : run 231 = .yes := by kernel_rfl
theorem n232 : run 232 = .yes := by kernel_rfl
theorem n233 : run 233 = .yes := by kernel_rfl
theorem n234 : run 234 = .yes := by kernel_rfl
theorem n235 : run 235 = .yes := by kernel_rfl
theorem n236 : run 236 = .yes := by kernel_rfl
theorem n237 : run 237 = .yes := by kernel_rfl
theorem n238 : run 238 = .yes := by kernel_rfl
theorem n239 : run 239 = .yes := by kernel_rfl
theorem n240 : run 240 = .yes := by kernel_rfl
theorem n241 : run 241 = .yes := by kernel_rfl
theorem n242 : run 242 = .yes := by kernel_rfl
theorem n243 : run 243 = .yes := by kernel_rfl
theorem n244 : run 244 = .yes := by kernel_rfl
theorem n245 : run 245 = .yes := by kernel_rfl
theorem n246 : run 246 = .yes := by kernel_rfl
theorem n247 : run 247 = .yes := by kernel_rfl
theorem n248 : run 248 = .yes := by kernel_rfl
theorem n249 : run 249 = .yes := by kernel_rfl
theorem n250 : run 250 = .yes := by kernel_rfl
theorem n251 : run 251 = .yes := by kernel_rfl
theorem n252 : run 252 = .yes := by kernel_rfl
theorem n253 : run 253 = .yes := by kernel_rfl
theorem n254 : run 254 = .yes := by kernel_rfl
theorem n255 : run 255 = .yes := by kernel_rfl
theorem n256 : run 256 = .yes := by kernel_rfl
theorem n257 : run 257 = .yes := by kernel_rfl
theorem n258 : run 258 = .yes := by kernel_rfl
theorem n259 : run 259 = .yes := by kernel_rfl
theorem n260 : run 260 = .yes := by kernel_rfl
theorem n261 : run 261 = .yes := by kernel_rfl
theorem n262 : run 262 = .yes := by kernel_rfl
theorem n263 : run 263 = .yes := by kernel_rfl
theorem n264 : run 264 = .yes := by kernel_rfl
theorem n265 : run 265 = .yes := by kernel_rfl
theorem n266 : run 266 = .yes := by kernel_rfl
theorem n267 : run 267 = .yes := by kernel_rfl
theorem n268 : run 268 = .yes := by kernel_rfl
theorem n269 : run 269 = .yes := by kernel_rfl
theorem n270 : run 270 = .yes := by kernel_rfl
theorem n271 : run 271 = .yes := by kernel_rfl
theorem n272 : run 272 = .yes := by kernel_rfl
theorem n273 : run 273 = .yes := by kernel_rfl
theorem n274 : run 274 = .yes := by kernel_rfl
theorem n275 : run 275 = .yes := by kernel_rfl
theorem n276 : run 276 = .yes := by kernel_rfl
theorem n277 : run 277 = .yes := by kernel_rfl
theorem n278 : run 278 = .yes := by kernel_rfl
theorem n279 : run 279 = .yes := by kernel_rfl
theorem n280 : run 280 = .yes := by kernel_rfl
theorem n281 : run 281 = .yes := by kernel_rfl
theorem n282 : run 282 = .yes := by kernel_rfl
theorem n283 : run 283 = .yes := by kernel_rfl
theorem n284 : run 284 = .yes := by kernel_rfl
theorem n285 : run 285 = .yes := by kernel_rfl
theorem n286 : run 286 = .yes := by kernel_rfl
theorem n287 : run 287 = .yes := by kernel_rfl
theorem n288 : run 288 = .yes := by kernel_rfl
theorem n289 : run 289 = .yes := by kernel_rfl
theorem n290 : run 290 = .yes := by kernel_rfl
theorem n291 : run 291 = .yes := by kernel_rfl
theorem n292 : run 292 = .yes := by kernel_rfl
theorem n293 : run 293 = .yes := by kernel_rfl
theorem n294 : run 294 = .yes := by kernel_rfl
theorem n295 : run 295 = .yes := by kernel_rfl
theorem n296 : run 296 = .yes := by kernel_rfl
theorem n297 : run 297 = .yes := by kernel_rfl
theorem n298 : run 298 = .yes := by kernel_rfl
theorem n299 : run 299 = .yes := by kernel_rfl
theorem nb2_0 : ∀ c, c < 10 → run (200 + c) = .yes
  | 0, _ => n200
  | 1, _ => n201
  | 2, _ => n202
  | 3, _ => n203
  | 4, _ => n204
  | 5, _ => n205
  | 6, _ => n206
  | 7, _ => n207
  | 8, _ => n208
  | 9, _ => n209
  | c + 10, h => absurd h (by omega)
theorem nb2_1 : ∀ c, c < 10 → run (210 + c) = .yes
  | 0, _ => n210
  | 1, _ => n211
  | 2, _ => n212
  | 3, _ => n213
  | 4, _ => n214
  | 5, _ => n215
  | 6, _ => n216
  | 7, _ => n217
  | 8, _ => n218
  | 9, _ => n219
  | c + 10, h => absurd h (by omega)
theorem nb2_2 : ∀ c, c < 10 → run (220 + c) = .yes
  | 0, _ => n220
  | 1, _ => n221
  | 2, _ => n222
  | 3, _ => n223
  | 4, _ => n224
  | 5, _ => n225
  | 6, _ => n226
  | 7, _ => n227
  | 8, _ => n228
  | 9, _ => n229
  | c + 10, h => absurd h (by omega)
theorem nb2_3 : ∀ c, c < 10 → run (230 + c) = .yes
  | 0, _ => n230
  | 1, _ => n231
  | 2, _ => n232
  | 3, _ => n233
  | 4, _ => n234
  | 5, _ => n235
  | 6, _ => n236
  | 7, _ => n237
  | 8, _ => n238
  | 9, _ => n239
  | c + 10, h => absurd h (by omega)
theorem nb2_4 : ∀ c, c < 10 → run (240 + c) = .yes
  | 0, _ => n240
  | 1, _ => n241
  | 2, _ => n242
  | 3, _ => n243
  | 4, _ => n244
  | 5, _ => n245
  | 6, _ => n246
  | 7, _ => n247
  | 8, _ => n248
  | 9, _ => n249
  | c + 10, h => absurd h (by omega)
theorem nb2_5 : ∀ c, c < 10 → run (250 + c) = .yes
  | 0, _ => n250
  | 1, _ => n251
  | 2, _ => n252
  | 3, _ => n253
  | 4, _ => n254
  | 5, _ => n255
  | 6, _ => n256
  | 7, _ => n257
  | 8, _ => n258
  | 9, _ => n259
  | c + 10, h => absurd h (by omega)
theorem nb2_6 : ∀ c, c < 10 → run (260 + c) = .yes
  | 0, _ => n260
  | 1, _ => n261
  | 2, _ => n262
  | 3, _ => n263
  | 4, _ => n264
  | 5, _ => n265
  | 6, _ => n266
  | 7, _ => n267
  | 8, _ => n268
  | 9, _ => n269
  | c + 10, h => absurd h (by omega)
theorem nb2_7 : ∀ c, c < 10 → run (270 + c) = .yes
  | 0, _ => n270
  | 1, _ => n271
  | 2, _ => n272
  | 3, _ => n273
  | 4, _ => n274
  | 5, _ => n275
  | 6, _ => n276
  | 7, _ => n277
  | 8, _ => n278
  | 9, _ => n279
  | c + 10, h => absurd h (by omega)
theorem nb2_8 : ∀ c, c < 10 → run (280 + c) = .yes
  | 0, _ => n280
  | 1, _ => n281
  | 2, _ => n282
  | 3, _ => n283
  | 4, _ => n284
  | 5, _ => n285
  | 6, _ => n286
  | 7, _ => n287
  | 8, _ => n288
  | 9, _ => n289
  | c + 10, h => absurd h (by omega)
theorem nb2_9 : ∀ c, c < 10 → run (290 + c) = .yes
  | 0, _ => n290
  | 1, _ => n291
  | 2, _ => n292
  | 3, _ => n293
  | 4, _ => n294
  | 5, _ => n295
  | 6, _ => n296
  | 7, _ => n297
  | 8, _ => n298
  | 9, _ => n299
  | c + 10, h => absurd h (by omega)
theorem na2 : ∀ b, b < 10 → ∀ c, c < 10 → run (200 + 10 * b + c) = .yes
  | 0, _ => nb2_0
  | 1, _ => nb2_1
  | 2, _ => nb2_2
  | 3, _ => nb2_3
  | 4, _ => nb2_4
  | 5, _ => nb2_5
  | 6, _ => nb2_6
  | 7, _ => nb2_7
  | 8, _ => nb2_8
  | 9, _ => nb2_9
  | b + 10, h => absurd h (by omega)
end Go.Proofs.YtmebdcipijgcnaaGreatDoor.liftOtherq
