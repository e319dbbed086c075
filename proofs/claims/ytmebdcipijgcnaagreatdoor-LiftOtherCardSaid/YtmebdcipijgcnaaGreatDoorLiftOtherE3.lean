/-
  The law LiftOther at some of its cases: the run over the program ends in true. Conditions: none; these are closed facts.
-/
import Derived.Test.YtmebdcipijgcnaaGreatDoorLiftOtherA
namespace Go.Proofs.YtmebdcipijgcnaaGreatDoor.liftOtherq
open Go.Rn YtmebdcipijgcnaaGreatDoor.txt
set_option maxHeartbeats 400000000
theorem e300 : runE 300 = .yes := by kernel_rfl
theorem e301 : runE 301 = .yes := by kernel_rfl
theorem e302 : runE 302 = .yes := by kernel_rfl
theorem e303 : runE 303 = .yes := by kernel_rfl
theorem e304 : runE 304 = .yes := by kernel_rfl
theorem e305 : runE 305 = .yes := by kernel_rfl
theorem e306 : runE 306 = .yes := by kernel_rfl
theorem e307 : runE 307 = .yes := by kernel_rfl
theorem e308 : runE 308 = .yes := by kernel_rfl
theorem e309 : runE 309 = .yes := by kernel_rfl
theorem e310 : runE 310 = .yes := by kernel_rfl
theorem e311 : runE 311 = .yes := by kernel_rfl
theorem e312 : runE 312 = .yes := by kernel_rfl
theorem e313 : runE 313 = .yes := by kernel_rfl
theorem e314 : runE 314 = .yes := by kernel_rfl
theorem e315 : runE 315 = .yes := by kernel_rfl
theorem e316 : runE 316 = .yes := by kernel_rfl
theorem e317 : runE 317 = .yes := by kernel_rfl
theorem e318 : runE 318 = .yes := by kernel_rfl
theorem e319 : runE 319 = .yes := by kernel_rfl
theorem e320 : runE 320 = .yes := by kernel_rfl
theorem e321 : runE 321 = .yes := by kernel_rfl
theorem e322 : runE 322 = .yes := by kernel_rfl
theorem e323 : runE 323 = .yes := by kernel_rfl
theorem e324 : runE 324 = .yes := by kernel_rfl
theorem e325 : runE 325 = .yes := by kernel_rfl
theorem e326 : runE 326 = .yes := by kernel_rfl
theorem e327 : runE 327 = .yes := by kernel_rfl
theorem e328 : runE 328 = .yes := by kernel_rfl
theorem e329 : runE 329 = .yes := by kernel_rfl
theorem e330 : runE 330 = .yes := by kernel_rfl
theorem e331 : runE 331 = .yes := by kernel_rfl
theorem e332 : runE 332 = .yes := by kernel_rfl
theorem e333 : runE 333 = .yes := by kernel_rfl
theorem e334 : runE 334 = .yes := by kernel_rfl
theorem e335 : runE 335 = .yes := by kernel_rfl
theorem e336 : runE 336 = .yes := by kernel_rfl
theorem e337 : runE 337 = .yes := by kernel_rfl
theorem e338 : runE 338 = .yes := by kernel_rfl
theorem e339 : runE 339 = .yes := by kernel_rfl
theorem e340 : runE 340 = .yes := by kernel_rfl
theorem e341 : runE 341 = .yes := by kernel_rfl
theorem e342 : runE 342 = .yes := by kernel_rfl
theorem e343 : runE 343 = .yes := by kernel_rfl
theorem e344 : runE 344 = .yes := by kernel_rfl
theorem e345 : runE 345 = .yes := by kernel_rfl
theorem e346 : runE 346 = .yes := by kernel_rfl
theorem e347 : runE 347 = .yes := by kernel_rfl
theorem e348 : runE 348 = .yes := by kernel_rfl
theorem e349 : runE 349 = .yes := by kernel_rfl
theorem e350 : runE 350 = .yes := by kernel_rfl
theorem e351 : runE 351 = .yes := by kernel_rfl
theorem e352 : runE 352 = .yes := by kernel_rfl
theorem e353 : runE 353 = .yes := by kernel_rfl
theorem e354 : runE 354 = .yes := by kernel_rfl
theorem e355 : runE 355 = .yes := by kernel_rfl
theorem e356 : runE 356 = .yes := by kernel_rfl
theorem e357 : runE 357 = .yes := by kernel_rfl
theorem e358 : runE 358 = .yes := by kernel_rfl
theorem e359 : runE 359 = .yes := by kernel_rfl
theorem e360 : runE 360 = .yes := by kernel_rfl
theorem e361 : runE 361 = .yes := by kernel_rfl
theorem e362 : runE 362 = .yes := by kernel_rfl
theorem e363 : runE 363 = .yes := by kernel_rfl
theorem e364 : runE 364 = .yes := by kernel_rfl
theorem e365 : runE 365 = .yes := by kernel_rfl
theorem e366 : runE 366 = .yes := by kernel_rfl
theorem e367 : runE 367 = .yes := by kernel_rfl
theorem e368 : runE 368 = .yes := by kernel_rfl
theorem e369 : runE 369 = .yes := by kernel_rfl
theorem e370 : runE 370 = .yes := by kernel_rfl
theorem e371 : runE 371 = .yes := by kernel_rfl
theorem e372 : runE 372 = .yes := by kernel_rfl
theorem e373 : runE 373 = .yes := by kernel_rfl
theorem e374 : runE 374 = .yes := by kernel_rfl
theorem e375 : runE 375 = .yes := by kernel_rfl
theorem e376 : runE 376 = .yes := by kernel_rfl
theorem e377 : runE 377 = .yes := by kernel_rfl
theorem e378 : runE 378 = .yes := by kernel_rfl
theorem e379 : runE 379 = .yes := by kernel_rfl
theorem e380 : runE 380 = .yes := by kernel_rfl
theorem e381 : runE 381 = .yes := by kernel_rfl
theorem e382 : runE 382 = .yes := by kernel_rfl
theorem e383 : runE 383 = .yes := by kernel_rfl
theorem e384 : runE 384 = .yes := by kernel_rfl
theorem e385 : runE 385 = .yes := by kernel_rfl
theorem e386 : runE 386 = .yes := by kernel_rfl
theorem e387 : runE 387 = .yes := by kernel_rfl
theorem e388 : runE 388 = .yes := by kernel_rfl
theorem e389 : runE 389 = .yes := by kernel_rfl
theorem e390 : runE 390 = .yes := by kernel_rfl
theorem e391 : runE 391 = .yes := by kernel_rfl
theorem e392 : runE 392 = .yes := by kernel_rfl
theorem e393 : runE 393 = .yes := by kernel_rfl
theorem e394 : runE 394 = .yes := by kernel_rfl
theorem e395 : runE 395 = .yes := by kernel_rfl
theorem e396 : runE 396 = .yes := by kernel_rfl
theorem e397 : runE 397 = .yes := by kernel_rfl
theorem e398 : runE 398 = .yes := by kernel_rfl
theorem e399 : runE 399 = .yes := by kernel_rfl
theorem eb3_0 : ∀ c, c < 10 → runE (300 + c) = .yes
  | 0, _ => e300
  | 1, _ => e301
  | 2, _ => e302
  | 3, _ => e303
  | 4, _ => e304
  | 5, _ => e305
  | 6, _ => e306
  | 7, _ => e307
  | 8, _ => e308
  | 9, _ => e309
  | c + 10, h => absurd h (by omega)
theorem eb3_1 : ∀ c, c < 10 → runE (310 + c) = .yes
  | 0, _ => e310
  | 1, _ => e311
  | 2, _ => e312
  | 3, _ => e313
  | 4, _ => e314
  | 5, _ => e315
  | 6, _ => e316
  | 7, _ => e317
  | 8, _ => e318
  | 9, _ => e319
  | c + 10, h => absurd h (by omega)
theorem eb3_2 : ∀ c, c < 10 → runE (320 + c) = .yes
  | 0, _ => e320
  | 1, _ => e321
  | 2, _ => e322
  | 3, _ => e323
  | 4, _ => e324
  | 5, _ => e325
  | 6, _ => e326
  | 7, _ => e327
  | 8, _ => e328
  | 9, _ => e329
  | c + 10, h => absurd h (by omega)
theorem eb3_3 : ∀ c, c < 10 → runE (330 + c) = .yes
  | 0, _ => e330
  | 1, _ => e331
  | 2, _ => e332
  | 3, _ => e333
  | 4, _ => e334
  | 5, _ => e335
  | 6, _ => e336
  | 7, _ => e337
  | 8, _ => e338
  | 9, _ => e339
  | c + 10, h => absurd h (by omega)
theorem eb3_4 : ∀ c, c < 10 → runE (340 + c) = .yes
  | 0, _ => e340
  | 1, _ => e341
  | 2, _ => e342
  | 3, _ => e343
  | 4, _ => e344
  | 5, _ => e345
  | 6, _ => e346
  | 7, _ => e347
  | 8, _ => e348
  | 9, _ => e349
  | c + 10, h => absurd h (by omega)
theorem eb3_5 : ∀ c, c < 10 → runE (350 + c) = .yes
  | 0, _ => e350
  | 1, _ => e351
  | 2, _ => e352
  | 3, _ => e353
  | 4, _ => e354
  | 5, _ => e355
  | 6, _ => e356
  | 7, _ => e357
  | 8, _ => e358
  | 9, _ => e359
  | c + 10, h => absurd h (by omega)
theorem eb3_6 : ∀ c, c < 10 → runE (360 + c) = .yes
  | 0, _ => e360
  | 1, _ => e361
  | 2, _ => e362
  | 3, _ => e363
  | 4, _ => e364
  | 5, _ => e365
  | 6, _ => e366
  | 7, _ => e367
  | 8, _ => e368
  | 9, _ => e369
  | c + 10, h => absurd h (by omega)
theorem eb3_7 : ∀ c, c < 10 → runE (370 + c) = .yes
  | 0, _ => e370
  | 1, _ => e371
  | 2, _ => e372
  | 3, _ => e373
  | 4, _ => e374
  | 5, _ => e375
  | 6, _ => e376
  | 7, _ => e377
  | 8, _ => e378
  | 9, _ => e379
  | c + 10, h => absurd h (by omega)
theorem eb3_8 : ∀ c, c < 10 → runE (380 + c) = .yes
  | 0, _ => e380
  | 1, _ => e381
  | 2, _ => e382
  | 3, _ => e383
  | 4, _ => e384
  | 5, _ => e385
  | 6, _ => e386
  | 7, _ => e387
  | 8, _ => e388
  | 9, _ => e389
  | c + 10, h => absurd h (by omega)
theorem eb3_9 : ∀ c, c < 10 → runE (390 + c) = .yes
  | 0, _ => e390
  | 1, _ => e391
  | 2, _ => e392
  | 3, _ => e393
  | 4, _ => e394
  | 5, _ => e395
  | 6, _ => e396
  | 7, _ => e397
  | 8, _ => e398
  | 9, _ => e399
  | c + 10, h => absurd h (by omega)
theorem ea3 : ∀ b, b < 10 → ∀ c, c < 10 → runE (300 + 10 * b + c) = .yes
  | 0, _ => eb3_0
  | 1, _ => eb3_1
  | 2, _ => eb3_2
  | 3, _ => eb3_3
  | 4, _ => eb3_4
  | 5, _ => eb3_5
  | 6, _ => eb3_6
  | 7, _ => eb3_7
  | 8, _ => eb3_8
  | 9, _ => eb3_9
  | b + 10, h => absurd h (by omega)
end Go.Proofs.YtmebdcipijgcnaaGreatDoor.liftOtherq
