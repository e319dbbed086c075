/-
  The law LiftOther at some of its cases: the run over the program ends in true. Conditions: none; these are closed facts.
-/
import Derived.Test.YtmebdcipijgcnaaGreatDoorLiftOtherA
namespace Go.Proofs.YtmebdcipijgcnaaGreatDoor.liftOtherq
open Go.Rn YtmebdcipijgcnaaGreatDoor.txt
set_option maxHeartbeats 400000000
theorem n400 : run 400 = .yes := by kernel_rfl
theorem n401 : run 401 = .yes := by kernel_rfl
theorem n402 : run 402 = .yes := by kernel_rfl
theorem n403 : run 403 = .yes := by kernel_rfl
theorem n404 : run 404 = .yes := by kernel_rfl
theorem n405 : run 405 = .yes := by kernel_rfl
theorem n406 : run 406 = .yes := by kernel_rfl
theorem n407 : run 407 = .yes := by kernel_rfl
theorem n408 : run 408 = .yes := by kernel_rfl
theorem n409 : run 409 = .yes := by kernel_rfl
theorem n410 : run 410 = .yes := by kernel_rfl
theorem n411 : run 411 = .yes := by kernel_rfl
theorem n412 : run 412 = .yes := by kernel_rfl
theorem n413 : run 413 = .yes := by kernel_rfl
theorem n414 : run 414 = .yes := by kernel_rfl
theorem n415 : run 415 = .yes := by kernel_rfl
theorem n416 : run 416 = .yes := by kernel_rfl
theorem n417 : run 417 = .yes := by kernel_rfl
theorem n418 : run 418 = .yes := by kernel_rfl
theorem n419 : run 419 = .yes := by kernel_rfl
theorem n420 : run 420 = .yes := by kernel_rfl
theorem n421 : run 421 = .yes := by kernel_rfl
theorem n422 : run 422 = .yes := by kernel_rfl
theorem n423 : run 423 = .yes := by kernel_rfl
theorem n424 : run 424 = .yes := by kernel_rfl
theorem n425 : run 425 = .yes := by kernel_rfl
theorem n426 : run 426 = .yes := by kernel_rfl
theorem n427 : run 427 = .yes := by kernel_rfl
theorem n428 : run 428 = .yes := by kernel_rfl
theorem n429 : run 429 = .yes := by kernel_rfl
theorem n430 : run 430 = .yes := by kernel_rfl
theorem n431 : run 431 = .yes := by kernel_rfl
theorem n432 : run 432 = .yes := by kernel_rfl
theorem n433 : run 433 = .yes := by kernel_rfl
theorem n434 : run 434 = .yes := by kernel_rfl
theorem n435 : run 435 = .yes := by kernel_rfl
theorem n436 : run 436 = .yes := by kernel_rfl
theorem n437 : run 437 = .yes := by kernel_rfl
theorem n438 : run 438 = .yes := by kernel_rfl
theorem n439 : run 439 = .yes := by kernel_rfl
theorem n440 : run 440 = .yes := by kernel_rfl
theorem n441 : run 441 = .yes := by kernel_rfl
theorem n442 : run 442 = .yes := by kernel_rfl
theorem n443 : run 443 = .yes := by kernel_rfl
theorem n444 : run 444 = .yes := by kernel_rfl
theorem n445 : run 445 = .yes := by kernel_rfl
theorem n446 : run 446 = .yes := by kernel_rfl
theorem n447 : run 447 = .yes := by kernel_rfl
theorem n448 : run 448 = .yes := by kernel_rfl
theorem n449 : run 449 = .yes := by kernel_rfl
theorem n450 : run 450 = .yes := by kernel_rfl
theorem n451 : run 451 = .yes := by kernel_rfl
theorem n452 : run 452 = .yes := by kernel_rfl
theorem n453 : run 453 = .yes := by kernel_rfl
theorem n454 : run 454 = .yes := by kernel_rfl
theorem n455 : run 455 = .yes := by kernel_rfl
theorem n456 : run 456 = .yes := by kernel_rfl
theorem n457 : run 457 = .yes := by kernel_rfl
theorem n458 : run 458 = .yes := by kernel_rfl
theorem n459 : run 459 = .yes := by kernel_rfl
theorem n460 : run 460 = .yes := by kernel_rfl
theorem n461 : run 461 = .yes := by kernel_rfl
theorem n462 : run 462 = .yes := by kernel_rfl
theorem n463 : run 463 = .yes := by kernel_rfl
theorem n464 : run 464 = .yes := by kernel_rfl
theorem n465 : run 465 = .yes := by kernel_rfl
theorem n466 : run 466 = .yes := by kernel_rfl
theorem n467 : run 467 = .yes := by kernel_rfl
theorem n468 : run 468 = .yes := by kernel_rfl
theorem n469 : run 469 = .yes := by kernel_rfl
theorem n470 : run 470 = .yes := by kernel_rfl
theorem n471 : run 471 = .yes := by kernel_rfl
theorem n472 : run 472 = .yes := by kernel_rfl
theorem n473 : run 473 = .yes := by kernel_rfl
theorem n474 : run 474 = .yes := by kernel_rfl
theorem n475 : run 475 = .yes := by kernel_rfl
theorem n476 : run 476 = .yes := by kernel_rfl
theorem n477 : run 477 = .yes := by kernel_rfl
theorem n478 : run 478 = .yes := by kernel_rfl
theorem n479 : run 479 = .yes := by kernel_rfl
theorem n480 : run 480 = .yes := by kernel_rfl
theorem n481 : run 481 = .yes := by kernel_rfl
theorem n482 : run 482 = .yes := by kernel_rfl
theorem n483 : run 483 = .yes := by kernel_rfl
theorem n484 : run 484 = .yes := by kernel_rfl
theorem n485 : run 485 = .yes := by kernel_rfl
theorem n486 : run 486 = .yes := by kernel_rfl
theorem n487 : run 487 = .yes := by kernel_rfl
theorem n488 : run 488 = .yes := by kernel_rfl
theorem n489 : run 489 = .yes := by kernel_rfl
theorem n490 : run 490 = .yes := by kernel_rfl
theorem n491 : run 491 = .yes := by kernel_rfl
theorem n492 : run 492 = .yes := by kernel_rfl
theorem n493 : run 493 = .yes := by kernel_rfl
theorem n494 : run 494 = .yes := by kernel_rfl
theorem n495 : run 495 = .yes := by kernel_rfl
theorem n496 : run 496 = .yes := by kernel_rfl
theorem n497 : run 497 = .yes := by kernel_rfl
theorem n498 : run 498 = .yes := by kernel_rfl
theorem n499 : run 499 = .yes := by kernel_rfl
theorem nb4_0 : ∀ c, c < 10 → run (400 + c) = .yes
  | 0, _ => n400
  | 1, _ => n401
  | 2, _ => n402
  | 3, _ => n403
  | 4, _ => n404
  | 5, _ => n405
  | 6, _ => n406
  | 7, _ => n407
  | 8, _ => n408
  | 9, _ => n409
  | c + 10, h => absurd h (by omega)
theorem nb4_1 : ∀ c, c < 10 → run (410 + c) = .yes
  | 0, _ => n410
  | 1, _ => n411
  | 2, _ => n412
  | 3, _ => n413
  | 4, _ => n414
  | 5, _ => n415
  | 6, _ => n416
  | 7, _ => n417
  | 8, _ => n418
  | 9, _ => n419
  | c + 10, h => absurd h (by omega)
theorem nb4_2 : ∀ c, c < 10 → run (420 + c) = .yes
  | 0, _ => n420
  | 1, _ => n421
  | 2, _ => n422
  | 3, _ => n423
  | 4, _ => n424
  | 5, _ => n425
  | 6, _ => n426
  | 7, _ => n427
  | 8, _ => n428
  | 9, _ => n429
  | c + 10, h => absurd h (by omega)
theorem nb4_3 : ∀ c, c < 10 → run (430 + c) = .yes
  | 0, _ => n430
  | 1, _ => n431
  | 2, _ => n432
  | 3, _ => n433
  | 4, _ => n434
  | 5, _ => n435
  | 6, _ => n436
  | 7, _ => n437
  | 8, _ => n438
  | 9, _ => n439
  | c + 10, h => absurd h (by omega)
theorem nb4_4 : ∀ c, c < 10 → run (440 + c) = .yes
  | 0, _ => n440
  | 1, _ => n441
  | 2, _ => n442
  | 3, _ => n443
  | 4, _ => n444
  | 5, _ => n445
  | 6, _ => n446
  | 7, _ => n447
  | 8, _ => n448
  | 9, _ => n449
  | c + 10, h => absurd h (by omega)
theorem nb4_5 : ∀ c, c < 10 → run (450 + c) = .yes
  | 0, _ => n450
  | 1, _ => n451
  | 2, _ => n452
  | 3, _ => n453
  | 4, _ => n454
  | 5, _ => n455
  | 6, _ => n456
  | 7, _ => n457
  | 8, _ => n458
  | 9, _ => n459
  | c + 10, h => absurd h (by omega)
theorem nb4_6 : ∀ c, c < 10 → run (460 + c) = .yes
  | 0, _ => n460
  | 1, _ => n461
  | 2, _ => n462
  | 3, _ => n463
  | 4, _ => n464
  | 5, _ => n465
  | 6, _ => n466
  | 7, _ => n467
  | 8, _ => n468
  | 9, _ => n469
  | c + 10, h => absurd h (by omega)
theorem nb4_7 : ∀ c, c < 10 → run (470 + c) = .yes
  | 0, _ => n470
  | 1, _ => n471
  | 2, _ => n472
  | 3, _ => n473
  | 4, _ => n474
  | 5, _ => n475
  | 6, _ => n476
  | 7, _ => n477
  | 8, _ => n478
  | 9, _ => n479
  | c + 10, h => absurd h (by omega)
theorem nb4_8 : ∀ c, c < 10 → run (480 + c) = .yes
  | 0, _ => n480
  | 1, _ => n481
  | 2, _ => n482
  | 3, _ => n483
  | 4, _ => n484
  | 5, _ => n485
  | 6, _ => n486
  | 7, _ => n487
  | 8, _ => n488
  | 9, _ => n489
  | c + 10, h => absurd h (by omega)
theorem nb4_9 : ∀ c, c < 10 → run (490 + c) = .yes
  | 0, _ => n490
  | 1, _ => n491
  | 2, _ => n492
  | 3, _ => n493
  | 4, _ => n494
  | 5, _ => n495
  | 6, _ => n496
  | 7, _ => n497
  | 8, _ => n498
  | 9, _ => n499
  | c + 10, h => absurd h (by omega)
theorem na4 : ∀ b, b < 10 → ∀ c, c < 10 → run (400 + 10 * b + c) = .yes
  | 0, _ => nb4_0
  | 1, _ => nb4_1
  | 2, _ => nb4_2
  | 3, _ => nb4_3
  | 4, _ => nb4_4
  | 5, _ => nb4_5
  | 6, _ => nb4_6
  | 7, _ => nb4_7
  | 8, _ => nb4_8
  | 9, _ => nb4_9
  | b + 10, h => absurd h (by omega)
end Go.Proofs.YtmebdcipijgcnaaGreatDoor.liftOtherq
