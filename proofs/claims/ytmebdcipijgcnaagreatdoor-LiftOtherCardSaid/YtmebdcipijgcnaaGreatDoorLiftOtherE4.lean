/-
  The law LiftOther at some of its cases: the run over the program ends in true. Conditions: none; these are closed facts.
-/
import Derived.Test.YtmebdcipijgcnaaGreatDoorLiftOtherA
namespace Go.Proofs.YtmebdcipijgcnaaGreatDoor.liftOtherq
open Go.Rn YtmebdcipijgcnaaGreatDoor.txt
set_option maxHeartbeats 400000000
theorem e400 : runE 400 = .yes := by kernel_rfl
theorem e401 : runE 401 = .yes := by kernel_rfl
theorem e402 : runE 402 = .yes := by kernel_rfl
theorem e403 : runE 403 = .yes := by kernel_rfl
theorem e404 : runE 404 = .yes := by kernel_rfl
theorem e405 : runE 405 = .yes := by kernel_rfl
theorem e406 : runE 406 = .yes := by kernel_rfl
theorem e407 : runE 407 = .yes := by kernel_rfl
theorem e408 : runE 408 = .yes := by kernel_rfl
theorem e409 : runE 409 = .yes := by kernel_rfl
theorem e410 : runE 410 = .yes := by kernel_rfl
theorem e411 : runE 411 = .yes := by kernel_rfl
theorem e412 : runE 412 = .yes := by kernel_rfl
theorem e413 : runE 413 = .yes := by kernel_rfl
theorem e414 : runE 414 = .yes := by kernel_rfl
theorem e415 : runE 415 = .yes := by kernel_rfl
theorem e416 : runE 416 = .yes := by kernel_rfl
theorem e417 : runE 417 = .yes := by kernel_rfl
theorem e418 : runE 418 = .yes := by kernel_rfl
theorem e419 : runE 419 = .yes := by kernel_rfl
theorem e420 : runE 420 = .yes := by kernel_rfl
theorem e421 : runE 421 = .yes := by kernel_rfl
theorem e422 : runE 422 = .yes := by kernel_rfl
theorem e423 : runE 423 = .yes := by kernel_rfl
theorem e424 : runE 424 = .yes := by kernel_rfl
theorem e425 : runE 425 = .yes := by kernel_rfl
theorem e426 : runE 426 = .yes := by kernel_rfl
theorem e427 : runE 427 = .yes := by kernel_rfl
theorem e428 : runE 428 = .yes := by kernel_rfl
theorem e429 : runE 429 = .yes := by kernel_rfl
theorem e430 : runE 430 = .yes := by kernel_rfl
theorem e431 : runE 431 = .yes := by kernel_rfl
theorem e432 : runE 432 = .yes := by kernel_rfl
theorem e433 : runE 433 = .yes := by kernel_rfl
theorem e434 : runE 434 = .yes := by kernel_rfl
theorem e435 : runE 435 = .yes := by kernel_rfl
theorem e436 : runE 436 = .yes := by kernel_rfl
theorem e437 : runE 437 = .yes := by kernel_rfl
theorem e438 : runE 438 = .yes := by kernel_rfl
theorem e439 : runE 439 = .yes := by kernel_rfl
theorem e440 : runE 440 = .yes := by kernel_rfl
theorem e441 : runE 441 = .yes := by kernel_rfl
theorem e442 : runE 442 = .yes := by kernel_rfl
theorem e443 : runE 443 = .yes := by kernel_rfl
theorem e444 : runE 444 = .yes := by kernel_rfl
theorem e445 : runE 445 = .yes := by kernel_rfl
theorem e446 : runE 446 = .yes := by kernel_rfl
theorem e447 : runE 447 = .yes := by kernel_rfl
theorem e448 : runE 448 = .yes := by kernel_rfl
theorem e449 : runE 449 = .yes := by kernel_rfl
theorem e450 : runE 450 = .yes := by kernel_rfl
theorem e451 : runE 451 = .yes := by kernel_rfl
theorem e452 : runE 452 = .yes := by kernel_rfl
theorem e453 : runE 453 = .yes := by kernel_rfl
theorem e454 : runE 454 = .yes := by kernel_rfl
theorem e455 : runE 455 = .yes := by kernel_rfl
theorem e456 : runE 456 = .yes := by kernel_rfl
theorem e457 : runE 457 = .yes := by kernel_rfl
theorem e458 : runE 458 = .yes := by kernel_rfl
theorem e459 : runE 459 = .yes := by kernel_rfl
theorem e460 : runE 460 = .yes := by kernel_rfl
theorem e461 : runE 461 = .yes := by kernel_rfl
theorem e462 : runE 462 = .yes := by kernel_rfl
theorem e463 : runE 463 = .yes := by kernel_rfl
theorem e464 : runE 464 = .yes := by kernel_rfl
theorem e465 : runE 465 = .yes := by kernel_rfl
theorem e466 : runE 466 = .yes := by kernel_rfl
theorem e467 : runE 467 = .yes := by kernel_rfl
theorem e468 : runE 468 = .yes := by kernel_rfl
theorem e469 : runE 469 = .yes := by kernel_rfl
theorem e470 : runE 470 = .yes := by kernel_rfl
theorem e471 : runE 471 = .yes := by kernel_rfl
theorem e472 : runE 472 = .yes := by kernel_rfl
theorem e473 : runE 473 = .yes := by kernel_rfl
theorem e474 : runE 474 = .yes := by kernel_rfl
theorem e475 : runE 475 = .yes := by kernel_rfl
theorem e476 : runE 476 = .yes := by kernel_rfl
theorem e477 : runE 477 = .yes := by kernel_rfl
theorem e478 : runE 478 = .yes := by kernel_rfl
theorem e479 : runE 479 = .yes := by kernel_rfl
theorem e480 : runE 480 = .yes := by kernel_rfl
theorem e481 : runE 481 = .yes := by kernel_rfl
theorem e482 : runE 482 = .yes := by kernel_rfl
theorem e483 : runE 483 = .yes := by kernel_rfl
theorem e484 : runE 484 = .yes := by kernel_rfl
theorem e485 : runE 485 = .yes := by kernel_rfl
theorem e486 : runE 486 = .yes := by kernel_rfl
theorem e487 : runE 487 = .yes := by kernel_rfl
theorem e488 : runE 488 = .yes := by kernel_rfl
theorem e489 : runE 489 = .yes := by kernel_rfl
theorem e490 : runE 490 = .yes := by kernel_rfl
theorem e491 : runE 491 = .yes := by kernel_rfl
theorem e492 : runE 492 = .yes := by kernel_rfl
theorem e493 : runE 493 = .yes := by kernel_rfl
theorem e494 : runE 494 = .yes := by kernel_rfl
theorem e495 : runE 495 = .yes := by kernel_rfl
theorem e496 : runE 496 = .yes := by kernel_rfl
theorem e497 : runE 497 = .yes := by kernel_rfl
theorem e498 : runE 498 = .yes := by kernel_rfl
theorem e499 : runE 499 = .yes := by kernel_rfl
theorem eb4_0 : ∀ c, c < 10 → runE (400 + c) = .yes
  | 0, _ => e400
  | 1, _ => e401
  | 2, _ => e402
  | 3, _ => e403
  | 4, _ => e404
  | 5, _ => e405
  | 6, _ => e406
  | 7, _ => e407
  | 8, _ => e408
  | 9, _ => e409
  | c + 10, h => absurd h (by omega)
theorem eb4_1 : ∀ c, c < 10 → runE (410 + c) = .yes
  | 0, _ => e410
  | 1, _ => e411
  | 2, _ => e412
  | 3, _ => e413
  | 4, _ => e414
  | 5, _ => e415
  | 6, _ => e416
  | 7, _ => e417
  | 8, _ => e418
  | 9, _ => e419
  | c + 10, h => absurd h (by omega)
theorem eb4_2 : ∀ c, c < 10 → runE (420 + c) = .yes
  | 0, _ => e420
  | 1, _ => e421
  | 2, _ => e422
  | 3, _ => e423
  | 4, _ => e424
  | 5, _ => e425
  | 6, _ => e426
  | 7, _ => e427
  | 8, _ => e428
  | 9, _ => e429
  | c + 10, h => absurd h (by omega)
theorem eb4_3 : ∀ c, c < 10 → runE (430 + c) = .yes
  | 0, _ => e430
  | 1, _ => e431
  | 2, _ => e432
  | 3, _ => e433
  | 4, _ => e434
  | 5, _ => e435
  | 6, _ => e436
  | 7, _ => e437
  | 8, _ => e438
  | 9, _ => e439
  | c + 10, h => absurd h (by omega)
theorem eb4_4 : ∀ c, c < 10 → runE (440 + c) = .yes
  | 0, _ => e440
  | 1, _ => e441
  | 2, _ => e442
  | 3, _ => e443
  | 4, _ => e444
  | 5, _ => e445
  | 6, _ => e446
  | 7, _ => e447
  | 8, _ => e448
  | 9, _ => e449
  | c + 10, h => absurd h (by omega)
theorem eb4_5 : ∀ c, c < 10 → runE (450 + c) = .yes
  | 0, _ => e450
  | 1, _ => e451
  | 2, _ => e452
  | 3, _ => e453
  | 4, _ => e454
  | 5, _ => e455
  | 6, _ => e456
  | 7, _ => e457
  | 8, _ => e458
  | 9, _ => e459
  | c + 10, h => absurd h (by omega)
theorem eb4_6 : ∀ c, c < 10 → runE (460 + c) = .yes
  | 0, _ => e460
  | 1, _ => e461
  | 2, _ => e462
  | 3, _ => e463
  | 4, _ => e464
  | 5, _ => e465
  | 6, _ => e466
  | 7, _ => e467
  | 8, _ => e468
  | 9, _ => e469
  | c + 10, h => absurd h (by omega)
theorem eb4_7 : ∀ c, c < 10 → runE (470 + c) = .yes
  | 0, _ => e470
  | 1, _ => e471
  | 2, _ => e472
  | 3, _ => e473
  | 4, _ => e474
  | 5, _ => e475
  | 6, _ => e476
  | 7, _ => e477
  | 8, _ => e478
  | 9, _ => e479
  | c + 10, h => absurd h (by omega)
theorem eb4_8 : ∀ c, c < 10 → runE (480 + c) = .yes
  | 0, _ => e480
  | 1, _ => e481
  | 2, _ => e482
  | 3, _ => e483
  | 4, _ => e484
  | 5, _ => e485
  | 6, _ => e486
  | 7, _ => e487
  | 8, _ => e488
  | 9, _ => e489
  | c + 10, h => absurd h (by omega)
theorem eb4_9 : ∀ c, c < 10 → runE (490 + c) = .yes
  | 0, _ => e490
  | 1, _ => e491
  | 2, _ => e492
  | 3, _ => e493
  | 4, _ => e494
  | 5, _ => e495
  | 6, _ => e496
  | 7, _ => e497
  | 8, _ => e498
  | 9, _ => e499
  | c + 10, h => absurd h (by omega)
theorem ea4 : ∀ b, b < 10 → ∀ c, c < 10 → runE (400 + 10 * b + c) = .yes
  | 0, _ => eb4_0
  | 1, _ => eb4_1
  | 2, _ => eb4_2
  | 3, _ => eb4_3
  | 4, _ => eb4_4
  | 5, _ => eb4_5
  | 6, _ => eb4_6
  | 7, _ => eb4_7
  | 8, _ => eb4_8
  | 9, _ => eb4_9
  | b + 10, h => absurd h (by omega)
end Go.Proofs.YtmebdcipijgcnaaGreatDoor.liftOtherq
