/-
  The law LiftOther at some of its cases: the run over the program ends in true. Conditions: none; these are closed facts.
-/
import Derived.Test.YtmebdcipijgcnaaGreatDoorLiftOtherA
namespace Go.Proofs.YtmebdcipijgcnaaGreatDoor.liftOtherq
open Go.Rn YtmebdcipijgcnaaGreatDoor.txt
set_option maxHeartbeats 400000000
theorem n300 : run 300 = .yes := by kernel_rfl
theorem n301 : run 301 = .yes := by kernel_rfl
theorem n302 : run 302 = .yes := by kernel_rfl
theorem n303 : run 303 = .yes := by kernel_rfl
theorem n304 : run 304 = .yes := by kernel_rfl
theorem n305 : run 305 = .yes := by kernel_rfl
theorem n306 : run 306 = .yes := by kernel_rfl
theorem n307 : run 307 = .yes := by kernel_rfl
theorem n308 : run 308 = .yes := by kernel_rfl
theorem n309 : run 309 = .yes := by kernel_rfl
theorem n310 : run 310 = .yes := by kernel_rfl
theorem n311 : run 311 = .yes := by kernel_rfl
theorem n312 : run 312 = .yes := by kernel_rfl
theorem n313 : run 313 = .yes := by kernel_rfl
theorem n314 : run 314 = .yes := by kernel_rfl
theorem n315 : run 315 = .yes := by kernel_rfl
theorem n316 : run 316 = .yes := by kernel_rfl
theorem n317 : run 317 = .yes := by kernel_rfl
theorem n318 : run 318 = .yes := by kernel_rfl
theorem n319 : run 319 = .yes := by kernel_rfl
theorem n320 : run 320 = .yes := by kernel_rfl
theorem n321 : run 321 = .yes := by kernel_rfl
theorem n322 : run 322 = .yes := by kernel_rfl
theorem n323 : run 323 = .yes := by kernel_rfl
theorem n324 : run 324 = .yes := by kernel_rfl
theorem n325 : run 325 = .yes := by kernel_rfl
theorem n326 : run 326 = .yes := by kernel_rfl
theorem n327 : run 327 = .yes := by kernel_rfl
theorem n328 : run 328 = .yes := by kernel_rfl
theorem n329 : run 329 = .yes := by kernel_rfl
theorem n330 : run 330 = .yes := by kernel_rfl
theorem n331 : run 331 = .yes := by kernel_rfl
theorem n332 : run 332 = .yes := by kernel_rfl
theorem n333 : run 333 = .yes := by kernel_rfl
theorem n334 : run 334 = .yes := by kernel_rfl
theorem n335 : run 335 = .yes := by kernel_rfl
theorem n336 : run 336 = .yes := by kernel_rfl
theorem n337 : run 337 = .yes := by kernel_rfl
theorem n338 : run 338 = .yes := by kernel_rfl
theorem n339 : run 339 = .yes := by kernel_rfl
theorem n340 : run 340 = .yes := by kernel_rfl
theorem n341 : run 341 = .yes := by kernel_rfl
theorem n342 : run 342 = .yes := by kernel_rfl
theorem n343 : run 343 = .yes := by kernel_rfl
theorem n344 : run 344 = .yes := by kernel_rfl
theorem n345 : run 345 = .yes := by kernel_rfl
theorem n346 : run 346 = .yes := by kernel_rfl
theorem n347 : run 347 = .yes := by kernel_rfl
theorem n348 : run 348 = .yes := by kernel_rfl
theorem n349 : run 349 = .yes := by kernel_rfl
theorem n350 : run 350 = .yes := by kernel_rfl
theorem n351 : run 351 = .yes := by kernel_rfl
theorem n352 : run 352 = .yes := by kernel_rfl
theorem n353 : run 353 = .yes := by kernel_rfl
theorem n354 : run 354 = .yes := by kernel_rfl
theorem n355 : run 355 = .yes := by kernel_rfl
theorem n356 : run 356 = .yes := by kernel_rfl
theorem n357 : run 357 = .yes := by kernel_rfl
theorem n358 : run 358 = .yes := by kernel_rfl
theorem n359 : run 359 = .yes := by kernel_rfl
theorem n360 : run 360 = .yes := by kernel_rfl
theorem n361 : run 361 = .yes := by kernel_rfl
theorem n362 : run 362 = .yes := by kernel_rfl
theorem n363 : run 363 = .yes := by kernel_rfl
theorem n364 : run 364 = .yes := by kernel_rfl
theorem n365 : run 365 = .yes := by kernel_rfl
theorem n366 : run 366 = .yes := by kernel_rfl
theorem n367 : run 367 = .yes := by kernel_rfl
theorem n368 : run 368 = .yes := by kernel_rfl
theorem n369 : run 369 = .yes := by kernel_rfl
theorem n370 : run 370 = .yes := by kernel_rfl
theorem n371 : run 371 = .yes := by kernel_rfl
theorem n372 : run 372 = .yes := by kernel_rfl
theorem n373 : run 373 = .yes := by kernel_rfl
theorem n374 : run 374 = .yes := by kernel_rfl
theorem n375 : run 375 = .yes := by kernel_rfl
theorem n376 : run 376 = .yes := by kernel_rfl
theorem n377 : run 377 = .yes := by kernel_rfl
theorem n378 : run 378 = .yes := by kernel_rfl
theorem n379 : run 379 = .yes := by kernel_rfl
theorem n380 : run 380 = .yes := by kernel_rfl
theorem n381 : run 381 = .yes := by kernel_rfl
theorem n382 : run 382 = .yes := by kernel_rfl
theorem n383 : run 383 = .yes := by kernel_rfl
theorem n384 : run 384 = .yes := by kernel_rfl
theorem n385 : run 385 = .yes := by kernel_rfl
theorem n386 : run 386 = .yes := by kernel_rfl
theorem n387 : run 387 = .yes := by kernel_rfl
theorem n388 : run 388 = .yes := by kernel_rfl
theorem n389 : run 389 = .yes := by kernel_rfl
theorem n390 : run 390 = .yes := by kernel_rfl
theorem n391 : run 391 = .yes := by kernel_rfl
theorem n392 : run 392 = .yes := by kernel_rfl
theorem n393 : run 393 = .yes := by kernel_rfl
theorem n394 : run 394 = .yes := by kernel_rfl
theorem n395 : run 395 = .yes := by kernel_rfl
theorem n396 : run 396 = .yes := by kernel_rfl
theorem n397 : run 397 = .yes := by kernel_rfl
theorem n398 : run 398 = .yes := by kernel_rfl
theorem n399 : run 399 = .yes := by kernel_rfl
theorem nb3_0 : ∀ c, c < 10 → run (300 + c) = .yes
  | 0, _ => n300
  | 1, _ => n301
  | 2, _ => n302
  | 3, _ => n303
  | 4, _ => n304
  | 5, _ => n305
  | 6, _ => n306
  | 7, _ => n307
  | 8, _ => n308
  | 9, _ => n309
  | c + 10, h => absurd h (by omega)
theorem nb3_1 : ∀ c, c < 10 → run (310 + c) = .yes
  | 0, _ => n310
  | 1, _ => n311
  | 2, _ => n312
  | 3, _ => n313
  | 4, _ => n314
  | 5, _ => n315
  | 6, _ => n316
  | 7, _ => n317
  | 8, _ => n318
  | 9, _ => n319
  | c + 10, h => absurd h (by omega)
theorem nb3_2 : ∀ c, c < 10 → run (320 + c) = .yes
  | 0, _ => n320
  | 1, _ => n321
  | 2, _ => n322
  | 3, _ => n323
  | 4, _ => n324
  | 5, _ => n325
  | 6, _ => n326
  | 7, _ => n327
  | 8, _ => n328
  | 9, _ => n329
  | c + 10, h => absurd h (by omega)
theorem nb3_3 : ∀ c, c < 10 → run (330 + c) = .yes
  | 0, _ => n330
  | 1, _ => n331
  | 2, _ => n332
  | 3, _ => n333
  | 4, _ => n334
  | 5, _ => n335
  | 6, _ => n336
  | 7, _ => n337
  | 8, _ => n338
  | 9, _ => n339
  | c + 10, h => absurd h (by omega)
theorem nb3_4 : ∀ c, c < 10 → run (340 + c) = .yes
  | 0, _ => n340
  | 1, _ => n341
  | 2, _ => n342
  | 3, _ => n343
  | 4, _ => n344
  | 5, _ => n345
  | 6, _ => n346
  | 7, _ => n347
  | 8, _ => n348
  | 9, _ => n349
  | c + 10, h => absurd h (by omega)
theorem nb3_5 : ∀ c, c < 10 → run (350 + c) = .yes
  | 0, _ => n350
  | 1, _ => n351
  | 2, _ => n352
  | 3, _ => n353
  | 4, _ => n354
  | 5, _ => n355
  | 6, _ => n356
  | 7, _ => n357
  | 8, _ => n358
  | 9, _ => n359
  | c + 10, h => absurd h (by omega)
theorem nb3_6 : ∀ c, c < 10 → run (360 + c) = .yes
  | 0, _ => n360
  | 1, _ => n361
  | 2, _ => n362
  | 3, _ => n363
  | 4, _ => n364
  | 5, _ => n365
  | 6, _ => n366
  | 7, _ => n367
  | 8, _ => n368
  | 9, _ => n369
  | c + 10, h => absurd h (by omega)
theorem nb3_7 : ∀ c, c < 10 → run (370 + c) = .yes
  | 0, _ => n370
  | 1, _ => n371
  | 2, _ => n372
  | 3, _ => n373
  | 4, _ => n374
  | 5, _ => n375
  | 6, _ => n376
  | 7, _ => n377
  | 8, _ => n378
  | 9, _ => n379
  | c + 10, h => absurd h (by omega)
theorem nb3_8 : ∀ c, c < 10 → run (380 + c) = .yes
  | 0, _ => n380
  | 1, _ => n381
  | 2, _ => n382
  | 3, _ => n383
  | 4, _ => n384
  | 5, _ => n385
  | 6, _ => n386
  | 7, _ => n387
  | 8, _ => n388
  | 9, _ => n389
  | c + 10, h => absurd h (by omega)
theorem nb3_9 : ∀ c, c < 10 → run (390 + c) = .yes
  | 0, _ => n390
  | 1, _ => n391
  | 2, _ => n392
  | 3, _ => n393
  | 4, _ => n394
  | 5, _ => n395
  | 6, _ => n396
  | 7, _ => n397
  | 8, _ => n398
  | 9, _ => n399
  | c + 10, h => absurd h (by omega)
theorem na3 : ∀ b, b < 10 → ∀ c, c < 10 → run (300 + 10 * b + c) = .yes
  | 0, _ => nb3_0
  | 1, _ => nb3_1
  | 2, _ => nb3_2
  | 3, _ => nb3_3
  | 4, _ => nb3_4
  | 5, _ => nb3_5
  | 6, _ => nb3_6
  | 7, _ => nb3_7
  | 8, _ => nb3_8
  | 9, _ => nb3_9
  | b + 10, h => absurd h (by omega)
end Go.Proofs.YtmebdcipijgcnaaGreatDoor.liftOtherq
