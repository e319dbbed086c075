/-
  The law LiftOther at some of its cases: the run over the program ends in true. Conditions: none; these are closed facts.
-/
import Derived.Test.YtmebdcipijgcnaaGreatDoorLiftOtherA
namespace Go.Proofs.YtmebdcipijgcnaaGreatDoor.liftOtherq
open Go.Rn YtmebdcipijgcnaaGreatDoor.txt
set_option maxHeartbeats 400000000
theorem e500 : runE 500 = .yes := by kernel_rfl
theorem e501 : runE 501 = .yes := by kernel_rfl
theorem e502 : runE 502 = .yes := by kernel_rfl
theorem e503 : runE 503 = .yes := by kernel_rfl
theorem e504 : runE 504 = .yes := by kernel_rfl
theorem e505 : runE 505 = .yes := by kernel_rfl
theorem e506 : runE 506 = .yes := by kernel_rfl
theorem e507 : runE 507 = .yes := by kernel_rfl
theorem e508 : runE 508 = .yes := by kernel_rfl
theorem e509 : runE 509 = .yes := by kernel_rfl
theorem e510 : runE 510 = .yes := by kernel_rfl
theorem e511 : runE 511 = .yes := by kernel_rfl
theorem e512 : runE 512 = .yes := by kernel_rfl
theorem e513 : runE 513 = .yes := by kernel_rfl
theorem e514 : runE 514 = .yes := by kernel_rfl
theorem e515 : runE 515 = .yes := by kernel_rfl
theorem e516 : runE 516 = .yes := by kernel_rfl
theorem e517 : runE 517 = .yes := by kernel_rfl
theorem e518 : runE 518 = .yes := by kernel_rfl
theorem e519 : runE 519 = .yes := by kernel_rfl
theorem e520 : runE 520 = .yes := by kernel_rfl
theorem e521 : runE 521 = .yes := by kernel_rfl
theorem e522 : runE 522 = .yes := by kernel_rfl
theorem e523 : runE 523 = .yes := by kernel_rfl
theorem e524 : runE 524 = .yes := by kernel_rfl
theorem e525 : runE 525 = .yes := by kernel_rfl
theorem e526 : runE 526 = .yes := by kernel_rfl
theorem e527 : runE 527 = .yes := by kernel_rfl
theorem e528 : runE 528 = .yes := by kernel_rfl
theorem e529 : runE 529 = .yes := by kernel_rfl
theorem e530 : runE 530 = .yes := by kernel_rfl
theorem e531 : runE 531 = .yes := by kernel_rfl
theorem e532 : runE 532 = .yes := by kernel_rfl
theorem e533 : runE 533 = .yes := by kernel_rfl
theorem e534 : runE 534 = .yes := by kernel_rfl
theorem e535 : runE 535 = .yes := by kernel_rfl
theorem e536 : runE 536 = .yes := by kernel_rfl
theorem e537 : runE 537 = .yes := by kernel_rfl
theorem e538 : runE 538 = .yes := by kernel_rfl
theorem e539 : runE 539 = .yes := by kernel_rfl
theorem e540 : runE 540 = .yes := by kernel_rfl
theorem e541 : runE 541 = .yes := by kernel_rfl
theorem e542 : runE 542 = .yes := by kernel_rfl
theorem e543 : runE 543 = .yes := by kernel_rfl
theorem e544 : runE 544 = .yes := by kernel_rfl
theorem e545 : runE 545 = .yes := by kernel_rfl
theorem e546 : runE 546 = .yes := by kernel_rfl
theorem e547 : runE 547 = .yes := by kernel_rfl
theorem e548 : runE 548 = .yes := by kernel_rfl
theorem e549 : runE 549 = .yes := by kernel_rfl
theorem e550 : runE 550 = .yes := by kernel_rfl
theorem e551 : runE 551 = .yes := by kernel_rfl
theorem e552 : runE 552 = .yes := by kernel_rfl
theorem e553 : runE 553 = .yes := by kernel_rfl
theorem e554 : runE 554 = .yes := by kernel_rfl
theorem e555 : runE 555 = .yes := by kernel_rfl
theorem e556 : runE 556 = .yes := by kernel_rfl
theorem e557 : runE 557 = .yes := by kernel_rfl
theorem e558 : runE 558 = .yes := by kernel_rfl
theorem e559 : runE 559 = .yes := by kernel_rfl
theorem e560 : runE 560 = .yes := by kernel_rfl
theorem e561 : runE 561 = .yes := by kernel_rfl
theorem e562 : runE 562 = .yes := by kernel_rfl
theorem e563 : runE 563 = .yes := by kernel_rfl
theorem e564 : runE 564 = .yes := by kernel_rfl
theorem e565 : runE 565 = .yes := by kernel_rfl
theorem e566 : runE 566 = .yes := by kernel_rfl
theorem e567 : runE 567 = .yes := by kernel_rfl
theorem e568 : runE 568 = .yes := by kernel_rfl
theorem e569 : runE 569 = .yes := by kernel_rfl
theorem e570 : runE 570 = .yes := by kernel_rfl
theorem e571 : runE 571 = .yes := by kernel_rfl
theorem e572 : runE 572 = .yes := by kernel_rfl
theorem e573 : runE 573 = .yes := by kernel_rfl
theorem e574 : runE 574 = .yes := by kernel_rfl
theorem e575 : runE 575 = .yes := by kernel_rfl
theorem e576 : runE 576 = .yes := by kernel_rfl
theorem e577 : runE 577 = .yes := by kernel_rfl
theorem e578 : runE 578 = .yes := by kernel_rfl
theorem e579 : runE 579 = .yes := by kernel_rfl
theorem e580 : runE 580 = .yes := by kernel_rfl
theorem e581 : runE 581 = .yes := by kernel_rfl
theorem e582 : runE 582 = .yes := by kernel_rfl
theorem e583 : runE 583 = .yes := by kernel_rfl
theorem e584 : runE 584 = .yes := by kernel_rfl
theorem e585 : runE 585 = .yes := by kernel_rfl
theorem e586 : runE 586 = .yes := by kernel_rfl
theorem e587 : runE 587 = .yes := by kernel_rfl
theorem e588 : runE 588 = .yes := by kernel_rfl
theorem e589 : runE 589 = .yes := by kernel_rfl
theorem e590 : runE 590 = .yes := by kernel_rfl
theorem e591 : runE 591 = .yes := by kernel_rfl
theorem e592 : runE 592 = .yes := by kernel_rfl
theorem e593 : runE 593 = .yes := by kernel_rfl
theorem e594 : runE 594 = .yes := by kernel_rfl
theorem e595 : runE 595 = .yes := by kernel_rfl
theorem e596 : runE 596 = .yes := by kernel_rfl
theorem e597 : runE 597 = .yes := by kernel_rfl
theorem e598 : runE 598 = .yes := by kernel_rfl
theorem e599 : runE 599 = .yes := by kernel_rfl
theorem eb5_0 : ∀ c, c < 10 → runE (500 + c) = .yes
  | 0, _ => e500
  | 1, _ => e501
  | 2, _ => e502
  | 3, _ => e503
  | 4, _ => e504
  | 5, _ => e505
  | 6, _ => e506
  | 7, _ => e507
  | 8, _ => e508
  | 9, _ => e509
  | c + 10, h => absurd h (by omega)
theorem eb5_1 : ∀ c, c < 10 → runE (510 + c) = .yes
  | 0, _ => e510
  | 1, _ => e511
  | 2, _ => e512
  | 3, _ => e513
  | 4, _ => e514
  | 5, _ => e515
  | 6, _ => e516
  | 7, _ => e517
  | 8, _ => e518
  | 9, _ => e519
  | c + 10, h => absurd h (by omega)
theorem eb5_2 : ∀ c, c < 10 → runE (520 + c) = .yes
  | 0, _ => e520
  | 1, _ => e521
  | 2, _ => e522
  | 3, _ => e523
  | 4, _ => e524
  | 5, _ => e525
  | 6, _ => e526
  | 7, _ => e527
  | 8, _ => e528
  | 9, _ => e529
  | c + 10, h => absurd h (by omega)
theorem eb5_3 : ∀ c, c < 10 → runE (530 + c) = .yes
  | 0, _ => e530
  | 1, _ => e531
  | 2, _ => e532
  | 3, _ => e533
  | 4, _ => e534
  | 5, _ => e535
  | 6, _ => e536
  | 7, _ => e537
  | 8, _ => e538
  | 9, _ => e539
  | c + 10, h => absurd h (by omega)
theorem eb5_4 : ∀ c, c < 10 → runE (540 + c) = .yes
  | 0, _ => e540
  | 1, _ => e541
  | 2, _ => e542
  | 3, _ => e543
  | 4, _ => e544
  | 5, _ => e545
  | 6, _ => e546
  | 7, _ => e547
  | 8, _ => e548
  | 9, _ => e549
  | c + 10, h => absurd h (by omega)
theorem eb5_5 : ∀ c, c < 10 → runE (550 + c) = .yes
  | 0, _ => e550
  | 1, _ => e551
  | 2, _ => e552
  | 3, _ => e553
  | 4, _ => e554
  | 5, _ => e555
  | 6, _ => e556
  | 7, _ => e557
  | 8, _ => e558
  | 9, _ => e559
  | c + 10, h => absurd h (by omega)
theorem eb5_6 : ∀ c, c < 10 → runE (560 + c) = .yes
  | 0, _ => e560
  | 1, _ => e561
  | 2, _ => e562
  | 3, _ => e563
  | 4, _ => e564
  | 5, _ => e565
  | 6, _ => e566
  | 7, _ => e567
  | 8, _ => e568
  | 9, _ => e569
  | c + 10, h => absurd h (by omega)
theorem eb5_7 : ∀ c, c < 10 → runE (570 + c) = .yes
  | 0, _ => e570
  | 1, _ => e571
  | 2, _ => e572
  | 3, _ => e573
  | 4, _ => e574
  | 5, _ => e575
  | 6, _ => e576
  | 7, _ => e577
  | 8, _ => e578
  | 9, _ => e579
  | c + 10, h => absurd h (by omega)
theorem eb5_8 : ∀ c, c < 10 → runE (580 + c) = .yes
  | 0, _ => e580
  | 1, _ => e581
  | 2, _ => e582
  | 3, _ => e583
  | 4, _ => e584
  | 5, _ => e585
  | 6, _ => e586
  | 7, _ => e587
  | 8, _ => e588
  | 9, _ => e589
  | c + 10, h => absurd h (by omega)
theorem eb5_9 : ∀ c, c < 10 → runE (590 + c) = .yes
  | 0, _ => e590
  | 1, _ => e591
  | 2, _ => e592
  | 3, _ => e593
  | 4, _ => e594
  | 5, _ => e595
  | 6, _ => e596
  | 7, _ => e597
  | 8, _ => e598
  | 9, _ => e599
  | c + 10, h => absurd h (by omega)
theorem ea5 : ∀ b, b < 10 → ∀ c, c < 10 → runE (500 + 10 * b + c) = .yes
  | 0, _ => eb5_0
  | 1, _ => eb5_1
  | 2, _ => eb5_2
  | 3, _ => eb5_3
  | 4, _ => eb5_4
  | 5, _ => eb5_5
  | 6, _ => eb5_6
  | 7, _ => eb5_7
  | 8, _ => eb5_8
  | 9, _ => eb5_9
  | b + 10, h => absurd h (by omega)
end Go.Proofs.YtmebdcipijgcnaaGreatDoor.liftOtherq
