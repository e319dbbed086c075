/-
  The law LiftOther at some of its cases: the run over the program ends in true. Conditions: none; these are closed facts.
-/
import Derived.Test.YtmebdcipijgcnaaGreatDoorLiftOtherA
namespace Go.Proofs.YtmebdcipijgcnaaGreatDoor.liftOtherq
open Go.Rn YtmebdcipijgcnaaGreatDoor.txt
set_option maxHeartbeats 400000000
theorem n600 : run 600 = .yes := by kernel_rfl
theorem n601 : run 601 = .yes := by kernel_rfl
theorem n602 : run 602 = .yes := by kernel_rfl
theorem n603 : run 603 = .yes := by kernel_rfl
theorem n604 : run 604 = .yes := by kernel_rfl
theorem n605 : run 605 = .yes := by kernel_rfl
theorem n606 : run 606 = .yes := by kernel_rfl
theorem n607 : run 607 = .yes := by kernel_rfl
theorem n608 : run 608 = .yes := by kernel_rfl
theorem n609 : run 609 = .yes := by kernel_rfl
theorem n610 : run 610 = .yes := by kernel_rfl
theorem n611 : run 611 = .yes := by kernel_rfl
theorem n612 : run 612 = .yes := by kernel_rfl
theorem n613 : run 613 = .yes := by kernel_rfl
theorem n614 : run 614 = .yes := by kernel_rfl
theorem n615 : run 615 = .yes := by kernel_rfl
theorem n616 : run 616 = .yes := by kernel_rfl
theorem n617 : run 617 = .yes := by kernel_rfl
theorem n618 : run 618 = .yes := by kernel_rfl
theorem n619 : run 619 = .yes := by kernel_rfl
theorem n620 : run 620 = .yes := by kernel_rfl
theorem n621 : run 621 = .yes := by kernel_rfl
theorem n622 : run 622 = .yes := by kernel_rfl
theorem n623 : run 623 = .yes := by kernel_rfl
theorem n624 : run 624 = .yes := by kernel_rfl
theorem n625 : run 625 = .yes := by kernel_rfl
theorem n626 : run 626 = .yes := by kernel_rfl
theorem n627 : run 627 = .yes := by kernel_rfl
theorem n628 : run 628 = .yes := by kernel_rfl
theorem n629 : run 629 = .yes := by kernel_rfl
theorem n630 : run 630 = .yes := by kernel_rfl
theorem n631 : run 631 = .yes := by kernel_rfl
theorem n632 : run 632 = .yes := by kernel_rfl
theorem n633 : run 633 = .yes := by kernel_rfl
theorem n634 : run 634 = .yes := by kernel_rfl
theorem n635 : run 635 = .yes := by kernel_rfl
theorem n636 : run 636 = .yes := by kernel_rfl
theorem n637 : run 637 = .yes := by kernel_rfl
theorem n638 : run 638 = .yes := by kernel_rfl
theorem n639 : run 639 = .yes := by kernel_rfl
theorem n640 : run 640 = .yes := by kernel_rfl
theorem n641 : run 641 = .yes := by kernel_rfl
theorem n642 : run 642 = .yes := by kernel_rfl
theorem n643 : run 643 = .yes := by kernel_rfl
theorem n644 : run 644 = .yes := by kernel_rfl
theorem n645 : run 645 = .yes := by kernel_rfl
theorem n646 : run 646 = .yes := by kernel_rfl
theorem n647 : run 647 = .yes := by kernel_rfl
theorem n648 : run 648 = .yes := by kernel_rfl
theorem n649 : run 649 = .yes := by kernel_rfl
theorem n650 : run 650 = .yes := by kernel_rfl
theorem n651 : run 651 = .yes := by kernel_rfl
theorem n652 : run 652 = .yes := by kernel_rfl
theorem n653 : run 653 = .yes := by kernel_rfl
theorem n654 : run 654 = .yes := by kernel_rfl
theorem n655 : run 655 = .yes := by kernel_rfl
theorem n656 : run 656 = .yes := by kernel_rfl
theorem n657 : run 657 = .yes := by kernel_rfl
theorem n658 : run 658 = .yes := by kernel_rfl
theorem n659 : run 659 = .yes := by kernel_rfl
theorem n660 : run 660 = .yes := by kernel_rfl
theorem n661 : run 661 = .yes := by kernel_rfl
theorem n662 : run 662 = .yes := by kernel_rfl
theorem n663 : run 663 = .yes := by kernel_rfl
theorem n664 : run 664 = .yes := by kernel_rfl
theorem n665 : run 665 = .yes := by kernel_rfl
theorem n666 : run 666 = .yes := by kernel_rfl
theorem n667 : run 667 = .yes := by kernel_rfl
theorem n668 : run 668 = .yes := by kernel_rfl
theorem n669 : run 669 = .yes := by kernel_rfl
theorem n670 : run 670 = .yes := by kernel_rfl
theorem n671 : run 671 = .yes := by kernel_rfl
theorem n672 : run 672 = .yes := by kernel_rfl
theorem n673 : run 673 = .yes := by kernel_rfl
theorem n674 : run 674 = .yes := by kernel_rfl
theorem n675 : run 675 = .yes := by kernel_rfl
theorem n676 : run 676 = .yes := by kernel_rfl
theorem n677 : run 677 = .yes := by kernel_rfl
theorem n678 : run 678 = .yes := by kernel_rfl
theorem n679 : run 679 = .yes := by kernel_rfl
theorem n680 : run 680 = .yes := by kernel_rfl
theorem n681 : run 681 = .yes := by kernel_rfl
theorem n682 : run 682 = .yes := by kernel_rfl
theorem n683 : run 683 = .yes := by kernel_rfl
theorem n684 : run 684 = .yes := by kernel_rfl
theorem n685 : run 685 = .yes := by kernel_rfl
theorem n686 : run 686 = .yes := by kernel_rfl
theorem n687 : run 687 = .yes := by kernel_rfl
theorem n688 : run 688 = .yes := by kernel_rfl
theorem n689 : run 689 = .yes := by kernel_rfl
theorem n690 : run 690 = .yes := by kernel_rfl
theorem n691 : run 691 = .yes := by kernel_rfl
theorem n692 : run 692 = .yes := by kernel_rfl
theorem n693 : run 693 = .yes := by kernel_rfl
theorem n694 : run 694 = .yes := by kernel_rfl
theorem n695 : run 695 = .yes := by kernel_rfl
theorem n696 : run 696 = .yes := by kernel_rfl
theorem n697 : run 697 = .yes := by kernel_rfl
theorem n698 : run 698 = .yes := by kernel_rfl
theorem n699 : run 699 = .yes := by kernel_rfl
theorem nb6_0 : ∀ c, c < 10 → run (600 + c) = .yes
  | 0, _ => n600
  | 1, _ => n601
  | 2, _ => n602
  | 3, _ => n603
  | 4, _ => n604
  | 5, _ => n605
  | 6, _ => n606
  | 7, _ => n607
  | 8, _ => n608
  | 9, _ => n609
  | c + 10, h => absurd h (by omega)
theorem nb6_1 : ∀ c, c < 10 → run (610 + c) = .yes
  | 0, _ => n610
  | 1, _ => n611
  | 2, _ => n612
  | 3, _ => n613
  | 4, _ => n614
  | 5, _ => n615
  | 6, _ => n616
  | 7, _ => n617
  | 8, _ => n618
  | 9, _ => n619
  | c + 10, h => absurd h (by omega)
theorem nb6_2 : ∀ c, c < 10 → run (620 + c) = .yes
  | 0, _ => n620
  | 1, _ => n621
  | 2, _ => n622
  | 3, _ => n623
  | 4, _ => n624
  | 5, _ => n625
  | 6, _ => n626
  | 7, _ => n627
  | 8, _ => n628
  | 9, _ => n629
  | c + 10, h => absurd h (by omega)
theorem nb6_3 : ∀ c, c < 10 → run (630 + c) = .yes
  | 0, _ => n630
  | 1, _ => n631
  | 2, _ => n632
  | 3, _ => n633
  | 4, _ => n634
  | 5, _ => n635
  | 6, _ => n636
  | 7, _ => n637
  | 8, _ => n638
  | 9, _ => n639
  | c + 10, h => absurd h (by omega)
theorem nb6_4 : ∀ c, c < 10 → run (640 + c) = .yes
  | 0, _ => n640
  | 1, _ => n641
  | 2, _ => n642
  | 3, _ => n643
  | 4, _ => n644
  | 5, _ => n645
  | 6, _ => n646
  | 7, _ => n647
  | 8, _ => n648
  | 9, _ => n649
  | c + 10, h => absurd h (by omega)
theorem nb6_5 : ∀ c, c < 10 → run (650 + c) = .yes
  | 0, _ => n650
  | 1, _ => n651
  | 2, _ => n652
  | 3, _ => n653
  | 4, _ => n654
  | 5, _ => n655
  | 6, _ => n656
  | 7, _ => n657
  | 8, _ => n658
  | 9, _ => n659
  | c + 10, h => absurd h (by omega)
theorem nb6_6 : ∀ c, c < 10 → run (660 + c) = .yes
  | 0, _ => n660
  | 1, _ => n661
  | 2, _ => n662
  | 3, _ => n663
  | 4, _ => n664
  | 5, _ => n665
  | 6, _ => n666
  | 7, _ => n667
  | 8, _ => n668
  | 9, _ => n669
  | c + 10, h => absurd h (by omega)
theorem nb6_7 : ∀ c, c < 10 → run (670 + c) = .yes
  | 0, _ => n670
  | 1, _ => n671
  | 2, _ => n672
  | 3, _ => n673
  | 4, _ => n674
  | 5, _ => n675
  | 6, _ => n676
  | 7, _ => n677
  | 8, _ => n678
  | 9, _ => n679
  | c + 10, h => absurd h (by omega)
theorem nb6_8 : ∀ c, c < 10 → run (680 + c) = .yes
  | 0, _ => n680
  | 1, _ => n681
  | 2, _ => n682
  | 3, _ => n683
  | 4, _ => n684
  | 5, _ => n685
  | 6, _ => n686
  | 7, _ => n687
  | 8, _ => n688
  | 9, _ => n689
  | c + 10, h => absurd h (by omega)
theorem nb6_9 : ∀ c, c < 10 → run (690 + c) = .yes
  | 0, _ => n690
  | 1, _ => n691
  | 2, _ => n692
  | 3, _ => n693
  | 4, _ => n694
  | 5, _ => n695
  | 6, _ => n696
  | 7, _ => n697
  | 8, _ => n698
  | 9, _ => n699
  | c + 10, h => absurd h (by omega)
theorem na6 : ∀ b, b < 10 → ∀ c, c < 10 → run (600 + 10 * b + c) = .yes
  | 0, _ => nb6_0
  | 1, _ => nb6_1
  | 2, _ => nb6_2
  | 3, _ => nb6_3
  | 4, _ => nb6_4
  | 5, _ => nb6_5
  | 6, _ => nb6_6
  | 7, _ => nb6_7
  | 8, _ => nb6_8
  | 9, _ => nb6_9
  | b + 10, h => absurd h (by omega)
end Go.Proofs.YtmebdcipijgcnaaGreatDoor.liftOtherq
