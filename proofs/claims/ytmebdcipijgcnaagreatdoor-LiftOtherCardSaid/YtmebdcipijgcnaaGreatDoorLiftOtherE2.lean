/-
  The law LiftOther at some of its cases: the run over the program ends in true. Conditions: none; these are closed facts.
-/
import Derived.Test.YtmebdcipijgcnaaGreatDoorLiftOtherA
namespace Go.Proofs.YtmebdcipijgcnaaGreatDoor.liftOtherq
open Go.Rn YtmebdcipijgcnaaGreatDoor.txt
set_option maxHeartbeats 400000000
theorem e200 : runE 200 = .yes := by kernel_rfl
theorem e201 : runE 201 = .yes := by kernel_rfl
theorem e202 : runE 202 = .yes := by kernel_rfl
theorem e203 : runE 203 = .yes := by kernel_rfl
theorem e204 : runE 204 = .yes := by kernel_rfl
theorem e205 : runE 205 = .yes := by kernel_rfl
theorem e206 : runE 206 = .yes := by kernel_rfl
theorem e207 : runE 207 = .yes := by kernel_rfl
theorem e208 : runE 208 = .yes := by kernel_rfl
theorem e209 : runE 209 = .yes := by kernel_rfl
theorem e210 : runE 210 = .yes := by kernel_rfl
theorem e211 : runE 211 = .yes := by kernel_rfl
theorem e212 : runE 212 = .yes := by kernel_rfl
theorem e213 : runE 213 = .yes := by kernel_rfl
theorem e214 : runE 214 = .yes := by kernel_rfl
theorem e215 : runE 215 = .yes := by kernel_rfl
theorem e216 : runE 216 = .yes := by kernel_rfl
theorem e217 : runE 217 = .yes := by kernel_rfl
theorem e218 : runE 218 = .yes := by kernel_rfl
theorem e219 : runE 219 = .yes := by kernel_rfl
theorem e220 : runE 220 = .yes := by kernel_rfl
theorem e221 : runE 221 = .yes := by kernel_rfl
theorem e222 : runE 222 = .yes := by kernel_rfl
theorem e223 : runE 223 = .yes := by kernel_rfl
theorem e224 : runE 224 = .yes := by kernel_rfl
theorem e225 : runE 225 = .yes := by kernel_rfl
theorem e226 : runE 226 = .yes := by kernel_rfl
theorem e227 : runE 227 = .yes := by kernel_rfl
theorem e228 : runE 228 = .yes := by kernel_rfl
theorem e229 : runE 229 = .yes := by kernel_rfl
theorem e230 : runE 230 = .yes := by kernel_rfl
theorem e231 : runE 231 = .yes := by kernel_rfl
theorem e232 : runE 232 = .yes := by kernel_rfl
theorem e233 : runE 233 = .yes := by kernel_rfl
theorem e234 : runE 234 = .yes := by kernel_rfl
theorem e235 : runE 235 = .yes := by kernel_rfl
theorem e236 : runE 236 = .yes := by kernel_rfl
theorem e237 : runE 237 = .yes := by kernel_rfl
theorem e238 : runE 238 = .yes := by kernel_rfl
theorem e239 : runE 239 = .yes := by kernel_rfl
theorem e240 : runE 240 = .yes := by kernel_rfl
theorem e241 : runE 241 = .yes := by kernel_rfl
theorem e242 : runE 242 = .yes := by kernel_rfl
theorem e243 : runE 243 = .yes := by kernel_rfl
theorem e244 : runE 244 = .yes := by kernel_rfl
theorem e245 : runE 245 = .yes := by kernel_rfl
theorem e246 : runE 246 = .yes := by kernel_rfl
theorem e247 : runE 247 = .yes := by kernel_rfl
theorem e248 : runE 248 = .yes := by kernel_rfl
theorem e249 : runE 249 = .yes := by kernel_rfl
theorem e250 : runE 250 = .yes := by kernel_rfl
theorem e251 : runE 251 = .yes := by kernel_rfl
theorem e252 : runE 252 = .yes := by kernel_rfl
theorem e253 : runE 253 = .yes := by kernel_rfl
theorem e254 : runE 254 = .yes := by kernel_rfl
theorem e255 : runE 255 = .yes := by kernel_rfl
theorem e256 : runE 256 = .yes := by kernel_rfl
theorem e257 : runE 257 = .yes := by kernel_rfl
theorem e258 : runE 258 = .yes := by kernel_rfl
theorem e259 : runE 259 = .yes := by kernel_rfl
theorem e260 : runE 260 = .yes := by kernel_rfl
theorem e261 : runE 261 = .yes := by kernel_rfl
theorem e262 : runE 262 = .yes := by kernel_rfl
theorem e263 : runE 263 = .yes := by kernel_rfl
theorem e264 : runE 264 = .yes := by kernel_rfl
theorem e265 : runE 265 = .yes := by kernel_rfl
theorem e266 : runE 266 = .yes := by kernel_rfl
theorem e267 : runE 267 = .yes := by kernel_rfl
theorem e268 : runE 268 = .yes := by kernel_rfl
theorem e269 : runE 269 = .yes := by kernel_rfl
theorem e270 : runE 270 = .yes := by kernel_rfl
theorem e271 : runE 271 = .yes := by kernel_rfl
theorem e272 : runE 272 = .yes := by kernel_rfl
theorem e273 : runE 273 = .yes := by kernel_rfl
theorem e274 : runE 274 = .yes := by kernel_rfl
theorem e275 : runE 275 = .yes := by kernel_rfl
theorem e276 : runE 276 = .yes := by kernel_rfl
theorem e277 : runE 277 = .yes := by kernel_rfl
theorem e278 : runE 278 = .yes := by kernel_rfl
theorem e279 : runE 279 = .yes := by kernel_rfl
theorem e280 : runE 280 = .yes := by kernel_rfl
theorem e281 : runE 281 = .yes := by kernel_rfl
theorem e282 : runE 282 = .yes := by kernel_rfl
theorem e283 : runE 283 = .yes := by kernel_rfl
theorem e284 : runE 284 = .yes := by kernel_rfl
theorem e285 : runE 285 = .yes := by kernel_rfl
theorem e286 : runE 286 = .yes := by kernel_rfl
theorem e287 : runE 287 = .yes := by kernel_rfl
theorem e288 : runE 288 = .yes := by kernel_rfl
theorem e289 : runE 289 = .yes := by kernel_rfl
theorem e290 : runE 290 = .yes := by kernel_rfl
theorem e291 : runE 291 = .yes := by kernel_rfl
theorem e292 : runE 292 = .yes := by kernel_rfl
theorem e293 : runE 293 = .yes := by kernel_rfl
theorem e294 : runE 294 = .yes := by kernel_rfl
theorem e295 : runE 295 = .yes := by kernel_rfl
theorem e296 : runE 296 = .yes := by kernel_rfl
theorem e297 : runE 297 = .yes := by kernel_rfl
theorem e298 : runE 298 = .yes := by kernel_rfl
theorem e299 : runE 299 = .yes := by kernel_rfl
theorem eb2_0 : ∀ c, c < 10 → runE (200 + c) = .yes
  | 0, _ => e200
  | 1, _ => e201
  | 2, _ => e202
  | 3, _ => e203
  | 4, _ => e204
  | 5, _ => e205
  | 6, _ => e206
  | 7, _ => e207
  | 8, _ => e208
  | 9, _ => e209
  | c + 10, h => absurd h (by omega)
theorem eb2_1 : ∀ c, c < 10 → runE (210 + c) = .yes
  | 0, _ => e210
  | 1, _ => e211
  | 2, _ => e212
  | 3, _ => e213
  | 4, _ => e214
  | 5, _ => e215
  | 6, _ => e216
  | 7, _ => e217
  | 8, _ => e218
  | 9, _ => e219
  | c + 10, h => absurd h (by omega)
theorem eb2_2 : ∀ c, c < 10 → runE (220 + c) = .yes
  | 0, _ => e220
  | 1, _ => e221
  | 2, _ => e222
  | 3, _ => e223
  | 4, _ => e224
  | 5, _ => e225
  | 6, _ => e226
  | 7, _ => e227
  | 8, _ => e228
  | 9, _ => e229
  | c + 10, h => absurd h (by omega)
theorem eb2_3 : ∀ c, c < 10 → runE (230 + c) = .yes
  | 0, _ => e230
  | 1, _ => e231
  | 2, _ => e232
  | 3, _ => e233
  | 4, _ => e234
  | 5, _ => e235
  | 6, _ => e236
  | 7, _ => e237
  | 8, _ => e238
  | 9, _ => e239
  | c + 10, h => absurd h (by omega)
theorem eb2_4 : ∀ c, c < 10 → runE (240 + c) = .yes
  | 0, _ => e240
  | 1, _ => e241
  | 2, _ => e242
  | 3, _ => e243
  | 4, _ => e244
  | 5, _ => e245
  | 6, _ => e246
  | 7, _ => e247
  | 8, _ => e248
  | 9, _ => e249
  | c + 10, h => absurd h (by omega)
theorem eb2_5 : ∀ c, c < 10 → runE (250 + c) = .yes
  | 0, _ => e250
  | 1, _ => e251
  | 2, _ => e252
  | 3, _ => e253
  | 4, _ => e254
  | 5, _ => e255
  | 6, _ => e256
  | 7, _ => e257
  | 8, _ => e258
  | 9, _ => e259
  | c + 10, h => absurd h (by omega)
theorem eb2_6 : ∀ c, c < 10 → runE (260 + c) = .yes
  | 0, _ => e260
  | 1, _ => e261
  | 2, _ => e262
  | 3, _ => e263
  | 4, _ => e264
  | 5, _ => e265
  | 6, _ => e266
  | 7, _ => e267
  | 8, _ => e268
  | 9, _ => e269
  | c + 10, h => absurd h (by omega)
theorem eb2_7 : ∀ c, c < 10 → runE (270 + c) = .yes
  | 0, _ => e270
  | 1, _ => e271
  | 2, _ => e272
  | 3, _ => e273
  | 4, _ => e274
  | 5, _ => e275
  | 6, _ => e276
  | 7, _ => e277
  | 8, _ => e278
  | 9, _ => e279
  | c + 10, h => absurd h (by omega)
theorem eb2_8 : ∀ c, c < 10 → runE (280 + c) = .yes
  | 0, _ => e280
  | 1, _ => e281
  | 2, _ => e282
  | 3, _ => e283
  | 4, _ => e284
  | 5, _ => e285
  | 6, _ => e286
  | 7, _ => e287
  | 8, _ => e288
  | 9, _ => e289
  | c + 10, h => absurd h (by omega)
theorem eb2_9 : ∀ c, c < 10 → runE (290 + c) = .yes
  | 0, _ => e290
  | 1, _ => e291
  | 2, _ => e292
  | 3, _ => e293
  | 4, _ => e294
  | 5, _ => e295
  | 6, _ => e296
  | 7, _ => e297
  | 8, _ => e298
  | 9, _ => e299
  | c + 10, h => absurd h (by omega)
theorem ea2 : ∀ b, b < 10 → ∀ c, c < 10 → runE (200 + 10 * b + c) = .yes
  | 0, _ => eb2_0
  | 1, _ => eb2_1
  | 2, _ => eb2_2
  | 3, _ => eb2_3
  | 4, _ => eb2_4
  | 5, _ => eb2_5
  | 6, _ => eb2_6
  | 7, _ => eb2_7
  | 8, _ => eb2_8
  | 9, _ => eb2_9
  | b + 10, h => absurd h (by omega)
end Go.Proofs.YtmebdcipijgcnaaGreatDoor.liftOtherq
