/-
  The law LiftOther at some of its cases: the run over the program ends in true. Conditions: none; these are closed facts.
-/
import Derived.Test.YtmebdcipijgcnaaGreatDoorLiftOtherA
namespace Go.Proofs.YtmebdcipijgcnaaGreatDoor.liftOtherq
open Go.Rn YtmebdcipijgcnaaGreatDoor.txt
set_option maxHeartbeats 400000000
theorem n500 : run 500 = .yes := by kernel_rfl
theorem n501 : run 501 = .yes := by kernel_rfl
theorem n502 : run 502 = .yes := by kernel_rfl
theorem n503 : run 503 = .yes := by kernel_rfl
theorem n504 : run 504 = .yes := by kernel_rfl
theorem n505 : run 505 = .yes := by kernel_rfl
theorem n506 : run 506 = .yes := by kernel_rfl
theorem n507 : run 507 = .yes := by kernel_rfl
theorem n508 : run 508 = .yes := by kernel_rfl
theorem n509 : run 509 = .yes := by kernel_rfl
theorem n510 : run 510 = .yes := by kernel_rfl
theorem n511 : run 511 = .yes := by kernel_rfl
theorem n512 : run 512 = .yes := by kernel_rfl
theorem n513 : run 513 = .yes := by kernel_rfl
theorem n514 : run 514 = .yes := by kernel_rfl
theorem n515 : run 515 = .yes := by kernel_rfl
theorem n516 : run 516 = .yes := by kernel_rfl
theorem n517 : run 517 = .yes := by kernel_rfl
theorem n518 : run 518 = .yes := by kernel_rfl
theorem n519 : run 519 = .yes := by kernel_rfl
theorem n520 : run 520 = .yes := by kernel_rfl
theorem n521 : run 521 = .yes := by kernel_rfl
theorem n522 : run 522 = .yes := by kernel_rfl
theorem n523 : run 523 = .yes := by kernel_rfl
theorem n524 : run 524 = .yes := by kernel_rfl
theorem n525 : run 525 = .yes := by kernel_rfl
theorem n526 : run 526 = .yes := by kernel_rfl
theorem n527 : run 527 = .yes := by kernel_rfl
theorem n528 : run 528 = .yes := by kernel_rfl
theorem n529 : run 529 = .yes := by kernel_rfl
theorem n530 : run 530 = .yes := by kernel_rfl
theorem n531 : run 531 = .yes := by kernel_rfl
theorem n532 : run 532 = .yes := by kernel_rfl
theorem n533 : run 533 = .yes := by kernel_rfl
theorem n534 : run 534 = .yes := by kernel_rfl
theorem n535 : run 535 = .yes := by kernel_rfl
theorem n536 : run 536 = .yes := by kernel_rfl
theorem n537 : run 537 = .yes := by kernel_rfl
theorem n538 : run 538 = .yes := by kernel_rfl
theorem n539 : run 539 = .yes := by kernel_rfl
theorem n540 : run 540 = .yes := by kernel_rfl
theorem n541 : run 541 = .yes := by kernel_rfl
theorem n542 : run 542 = .yes := by kernel_rfl
theorem n543 : run 543 = .yes := by kernel_rfl
theorem n544 : run 544 = .yes := by kernel_rfl
theorem n545 : run 545 = .yes := by kernel_rfl
theorem n546 : run 546 = .yes := by kernel_rfl
theorem n547 : run 547 = .yes := by kernel_rfl
theorem n548 : run 548 = .yes := by kernel_rfl
theorem n549 : run 549 = .yes := by kernel_rfl
theorem n550 : run 550 = .yes := by kernel_rfl
theorem n551 : run 551 = .yes := by kernel_rfl
theorem n552 : run 552 = .yes := by kernel_rfl
theorem n553 : run 553 = .yes := by kernel_rfl
theorem n554 : run 554 = .yes := by kernel_rfl
theorem n555 : run 555 = .yes := by kernel_rfl
theorem n556 : run 556 = .yes := by kernel_rfl
theorem n557 : run 557 = .yes := by kernel_rfl
theorem n558 : run 558 = .yes := by kernel_rfl
theorem n559 : run 559 = .yes := by kernel_rfl
theorem n560 : run 560 = .yes := by kernel_rfl
theorem n561 : run 561 = .yes := by kernel_rfl
theorem n562 : run 562 = .yes := by kernel_rfl
theorem n563 : run 563 = .yes := by kernel_rfl
theorem n564 : run 564 = .yes := by kernel_rfl
theorem n565 : run 565 = .yes := by kernel_rfl
theorem n566 : run 566 = .yes := by kernel_rfl
theorem n567 : run 567 = .yes := by kernel_rfl
theorem n568 : run 568 = .yes := by kernel_rfl
theorem n569 : run 569 = .yes := by kernel_rfl
theorem n570 : run 570 = .yes := by kernel_rfl
theorem n571 : run 571 = .yes := by kernel_rfl
theorem n572 : run 572 = .yes := by kernel_rfl
theorem n573 : run 573 = .yes := by kernel_rfl
theorem n574 : run 574 = .yes := by kernel_rfl
theorem n575 : run 575 = .yes := by kernel_rfl
theorem n576 : run 576 = .yes := by kernel_rfl
theorem n577 : run 577 = .yes := by kernel_rfl
theorem n578 : run 578 = .yes := by kernel_rfl
theorem n579 : run 579 = .yes := by kernel_rfl
theorem n580 : run 580 = .yes := by kernel_rfl
theorem n581 : run 581 = .yes := by kernel_rfl
theorem n582 : run 582 = .yes := by kernel_rfl
theorem n583 : run 583 = .yes := by kernel_rfl
theorem n584 : run 584 = .yes := by kernel_rfl
theorem n585 : run 585 = .yes := by kernel_rfl
theorem n586 : run 586 = .yes := by kernel_rfl
theorem n587 : run 587 = .yes := by kernel_rfl
theorem n588 : run 588 = .yes := by kernel_rfl
theorem n589 : run 589 = .yes := by kernel_rfl
theorem n590 : run 590 = .yes := by kernel_rfl
theorem n591 : run 591 = .yes := by kernel_rfl
theorem n592 : run 592 = .yes := by kernel_rfl
theorem n593 : run 593 = .yes := by kernel_rfl
theorem n594 : run 594 = .yes := by kernel_rfl
theorem n595 : run 595 = .yes := by kernel_rfl
theorem n596 : run 596 = .yes := by kernel_rfl
theorem n597 : run 597 = .yes := by kernel_rfl
theorem n598 : run 598 = .yes := by kernel_rfl
theorem n599 : run 599 = .yes := by kernel_rfl
theorem nb5_0 : ∀ c, c < 10 → run (500 + c) = .yes
  | 0, _ => n500
  | 1, _ => n501
  | 2, _ => n502
  | 3, _ => n503
  | 4, _ => n504
  | 5, _ => n505
  | 6, _ => n506
  | 7, _ => n507
  | 8, _ => n508
  | 9, _ => n509
  | c + 10, h => absurd h (by omega)
theorem nb5_1 : ∀ c, c < 10 → run (510 + c) = .yes
  | 0, _ => n510
  | 1, _ => n511
  | 2, _ => n512
  | 3, _ => n513
  | 4, _ => n514
  | 5, _ => n515
  | 6, _ => n516
  | 7, _ => n517
  | 8, _ => n518
  | 9, _ => n519
  | c + 10, h => absurd h (by omega)
theorem nb5_2 : ∀ c, c < 10 → run (520 + c) = .yes
  | 0, _ => n520
  | 1, _ => n521
  | 2, _ => n522
  | 3, _ => n523
  | 4, _ => n524
  | 5, _ => n525
  | 6, _ => n526
  | 7, _ => n527
  | 8, _ => n528
  | 9, _ => n529
  | c + 10, h => absurd h (by omega)
theorem nb5_3 : ∀ c, c < 10 → run (530 + c) = .yes
  | 0, _ => n530
  | 1, _ => n531
  | 2, _ => n532
  | 3, _ => n533
  | 4, _ => n534
  | 5, _ => n535
  | 6, _ => n536
  | 7, _ => n537
  | 8, _ => n538
  | 9, _ => n539
  | c + 10, h => absurd h (by omega)
theorem nb5_4 : ∀ c, c < 10 → run (540 + c) = .yes
  | 0, _ => n540
  | 1, _ => n541
  | 2, _ => n542
  | 3, _ => n543
  | 4, _ => n544
  | 5, _ => n545
  | 6, _ => n546
  | 7, _ => n547
  | 8, _ => n548
  | 9, _ => n549
  | c + 10, h => absurd h (by omega)
theorem nb5_5 : ∀ c, c < 10 → run (550 + c) = .yes
  | 0, _ => n550
  | 1, _ => n551
  | 2, _ => n552
  | 3, _ => n553
  | 4, _ => n554
  | 5, _ => n555
  | 6, _ => n556
  | 7, _ => n557
  | 8, _ => n558
  | 9, _ => n559
  | c + 10, h => absurd h (by omega)
theorem nb5_6 : ∀ c, c < 10 → run (560 + c) = .yes
  | 0, _ => n560
  | 1, _ => n561
  | 2, _ => n562
  | 3, _ => n563
  | 4, _ => n564
  | 5, _ => n565
  | 6, _ => n566
  | 7, _ => n567
  | 8, _ => n568
  | 9, _ => n569
  | c + 10, h => absurd h (by omega)
theorem nb5_7 : ∀ c, c < 10 → run (570 + c) = .yes
  | 0, _ => n570
  | 1, _ => n571
  | 2, _ => n572
  | 3, _ => n573
  | 4, _ => n574
  | 5, _ => n575
  | 6, _ => n576
  | 7, _ => n577
  | 8, _ => n578
  | 9, _ => n579
  | c + 10, h => absurd h (by omega)
theorem nb5_8 : ∀ c, c < 10 → run (580 + c) = .yes
  | 0, _ => n580
  | 1, _ => n581
  | 2, _ => n582
  | 3, _ => n583
  | 4, _ => n584
  | 5, _ => n585
  | 6, _ => n586
  | 7, _ => n587
  | 8, _ => n588
  | 9, _ => n589
  | c + 10, h => absurd h (by omega)
theorem nb5_9 : ∀ c, c < 10 → run (590 + c) = .yes
  | 0, _ => n590
  | 1, _ => n591
  | 2, _ => n592
  | 3, _ => n593
  | 4, _ => n594
  | 5, _ => n595
  | 6, _ => n596
  | 7, _ => n597
  | 8, _ => n598
  | 9, _ => n599
  | c + 10, h => absurd h (by omega)
theorem na5 : ∀ b, b < 10 → ∀ c, c < 10 → run (500 + 10 * b + c) = .yes
  | 0, _ => nb5_0
  | 1, _ => nb5_1
  | 2, _ => nb5_2
  | 3, _ => nb5_3
  | 4, _ => nb5_4
  | 5, _ => nb5_5
  | 6, _ => nb5_6
  | 7, _ => nb5_7
  | 8, _ => nb5_8
  | 9, _ => nb5_9
  | b + 10, h => absurd h (by omega)
end Go.Proofs.YtmebdcipijgcnaaGreatDoor.liftOtherq
