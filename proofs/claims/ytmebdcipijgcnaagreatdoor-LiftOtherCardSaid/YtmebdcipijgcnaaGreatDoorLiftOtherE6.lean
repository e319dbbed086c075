/-
  The law LiftOther at some of its cases: the run over the program ends in true. Conditions: none; these are closed facts.
-/
import Derived.Test.YtmebdcipijgcnaaGreatDoorLiftOtherA
namespace Go.Proofs.YtmebdcipijgcnaaGreatDoor.liftOtherq
open Go.Rn YtmebdcipijgcnaaGreatDoor.txt
set_option maxHeartbeats 400000000
theorem e600 : runE 600 = .yes := by kernel_rfl
theorem e601 : runE 601 = .yes := by kernel_rfl
theorem e602 : runE 602 = .yes := by kernel_rfl
theorem e603 : runE 603 = .yes := by kernel_rfl
theorem e604 : runE 604 = .yes := by kernel_rfl
theorem e605 : runE 605 = .yes := by kernel_rfl
theorem e606 : runE 606 = .yes := by kernel_rfl
theorem e607 : runE 607 = .yes := by kernel_rfl
theorem e608 : runE 608 = .yes := by kernel_rfl
theorem e609 : runE 609 = .yes := by kernel_rfl
theorem e610 : runE 610 = .yes := by kernel_rfl
theorem e611 : runE 611 = .yes := by kernel_rfl
theorem e612 : runE 612 = .yes := by kernel_rfl
theorem e613 : runE 613 = .yes := by kernel_rfl
theorem e614 : runE 614 = .yes := by kernel_rfl
theorem e615 : runE 615 = .yes := by kernel_rfl
theorem e616 : runE 616 = .yes := by kernel_rfl
theorem e617 : runE 617 = .yes := by kernel_rfl
theorem e618 : runE 618 = .yes := by kernel_rfl
theorem e619 : runE 619 = .yes := by kernel_rfl
theorem e620 : runE 620 = .yes := by kernel_rfl
theorem e621 : runE 621 = .yes := by kernel_rfl
theorem e622 : runE 622 = .yes := by kernel_rfl
theorem e623 : runE 623 = .yes := by kernel_rfl
theorem e624 : runE 624 = .yes := by kernel_rfl
theorem e625 : runE 625 = .yes := by kernel_rfl
theorem e626 : runE 626 = .yes := by kernel_rfl
theorem e627 : runE 627 = .yes := by kernel_rfl
theorem e628 : runE 628 = .yes := by kernel_rfl
theorem e629 : runE 629 = .yes := by kernel_rfl
theorem e630 : runE 630 = .yes := by kernel_rfl
theorem e631 : runE 631 = .yes := by kernel_rfl
theorem e632 : runE 632 = .yes := by kernel_rfl
theorem e633 : runE 633 = .yes := by kernel_rfl
theorem e634 : runE 634 = .yes := by kernel_rfl
theorem e635 : runE 635 = .yes := by kernel_rfl
theorem e636 : runE 636 = .yes := by kernel_rfl
theorem e637 : runE 637 = .yes := by kernel_rfl
theorem e638 : runE 638 = .yes := by kernel_rfl
theorem e639 : runE 639 = .yes := by kernel_rfl
theorem e640 : runE 640 = .yes := by kernel_rfl
theorem e641 : runE 641 = .yes := by kernel_rfl
theorem e642 : runE 642 = .yes := by kernel_rfl
theorem e643 : runE 643 = .yes := by kernel_rfl
theorem e644 : runE 644 = .yes := by kernel_rfl
theorem e645 : runE 645 = .yes := by kernel_rfl
theorem e646 : runE 646 = .yes := by kernel_rfl
theorem e647 : runE 647 = .yes := by kernel_rfl
theorem e648 : runE 648 = .yes := by kernel_rfl
theorem e649 : runE 649 = .yes := by kernel_rfl
theorem e650 : runE 650 = .yes := by kernel_rfl
theorem e651 : runE 651 = .yes := by kernel_rfl
theorem e652 : runE 652 = .yes := by kernel_rfl
theorem e653 : runE 653 = .yes := by kernel_rfl
theorem e654 : runE 654 = .yes := by kernel_rfl
theorem e655 : runE 655 = .yes := by kernel_rfl
theorem e656 : runE 656 = .yes := by kernel_rfl
theorem e657 : runE 657 = .yes := by kernel_rfl
theorem e658 : runE 658 = .yes := by kernel_rfl
theorem e659 : runE 659 = .yes := by kernel_rfl
theorem e660 : runE 660 = .yes := by kernel_rfl
theorem e661 : runE 661 = .yes := by kernel_rfl
theorem e662 : runE 662 = .yes := by kernel_rfl
theorem e663 : runE 663 = .yes := by kernel_rfl
theorem e664 : runE 664 = .yes := by kernel_rfl
theorem e665 : runE 665 = .yes := by kernel_rfl
theorem e666 : runE 666 = .yes := by kernel_rfl
theorem e667 : runE 667 = .yes := by kernel_rfl
theorem e668 : runE 668 = .yes := by kernel_rfl
theorem e669 : runE 669 = .yes := by kernel_rfl
theorem e670 : runE 670 = .yes := by kernel_rfl
theorem e671 : runE 671 = .yes := by kernel_rfl
theorem e672 : runE 672 = .yes := by kernel_rfl
theorem e673 : runE 673 = .yes := by kernel_rfl
theorem e674 : runE 674 = .yes := by kernel_rfl
theorem e675 : runE 675 = .yes := by kernel_rfl
theorem e676 : runE 676 = .yes := by kernel_rfl
theorem e677 : runE 677 = .yes := by kernel_rfl
theorem e678 : runE 678 = .yes := by kernel_rfl
theorem e679 : runE 679 = .yes := by kernel_rfl
theorem e680 : runE 680 = .yes := by kernel_rfl
theorem e681 : runE 681 = .yes := by kernel_rfl
theorem e682 : runE 682 = .yes := by kernel_rfl
theorem e683 : runE 683 = .yes := by kernel_rfl
theorem e684 : runE 684 = .yes := by kernel_rfl
theorem e685 : runE 685 = .yes := by kernel_rfl
theorem e686 : runE 686 = .yes := by kernel_rfl
theorem e687 : runE 687 = .yes := by kernel_rfl
theorem e688 : runE 688 = .yes := by kernel_rfl
theorem e689 : runE 689 = .yes := by kernel_rfl
theorem e690 : runE 690 = .yes := by kernel_rfl
theorem e691 : runE 691 = .yes := by kernel_rfl
theorem e692 : runE 692 = .yes := by kernel_rfl
theorem e693 : runE 693 = .yes := by kernel_rfl
theorem e694 : runE 694 = .yes := by kernel_rfl
theorem e695 : runE 695 = .yes := by kernel_rfl
theorem e696 : runE 696 = .yes := by kernel_rfl
theorem e697 : runE 697 = .yes := by kernel_rfl
theorem e698 : runE 698 = .yes := by kernel_rfl
theorem e699 : runE 699 = .yes := by kernel_rfl
theorem eb6_0 : ∀ c, c < 10 → runE (600 + c) = .yes
  | 0, _ => e600
  | 1, _ => e601
  | 2, _ => e602
  | 3, _ => e603
  | 4, _ => e604
  | 5, _ => e605
  | 6, _ => e606
  | 7, _ => e607
  | 8, _ => e608
  | 9, _ => e609
  | c + 10, h => absurd h (by omega)
theorem eb6_1 : ∀ c, c < 10 → runE (610 + c) = .yes
  | 0, _ => e610
  | 1, _ => e611
  | 2, _ => e612
  | 3, _ => e613
  | 4, _ => e614
  | 5, _ => e615
  | 6, _ => e616
  | 7, _ => e617
  | 8, _ => e618
  | 9, _ => e619
  | c + 10, h => absurd h (by omega)
theorem eb6_2 : ∀ c, c < 10 → runE (620 + c) = .yes
  | 0, _ => e620
  | 1, _ => e621
  | 2, _ => e622
  | 3, _ => e623
  | 4, _ => e624
  | 5, _ => e625
  | 6, _ => e626
  | 7, _ => e627
  | 8, _ => e628
  | 9, _ => e629
  | c + 10, h => absurd h (by omega)
theorem eb6_3 : ∀ c, c < 10 → runE (630 + c) = .yes
  | 0, _ => e630
  | 1, _ => e631
  | 2, _ => e632
  | 3, _ => e633
  | 4, _ => e634
  | 5, _ => e635
  | 6, _ => e636
  | 7, _ => e637
  | 8, _ => e638
  | 9, _ => e639
  | c + 10, h => absurd h (by omega)
theorem eb6_4 : ∀ c, c < 10 → runE (640 + c) = .yes
  | 0, _ => e640
  | 1, _ => e641
  | 2, _ => e642
  | 3, _ => e643
  | 4, _ => e644
  | 5, _ => e645
  | 6, _ => e646
  | 7, _ => e647
  | 8, _ => e648
  | 9, _ => e649
  | c + 10, h => absurd h (by omega)
theorem eb6_5 : ∀ c, c < 10 → runE (650 + c) = .yes
  | 0, _ => e650
  | 1, _ => e651
  | 2, _ => e652
  | 3, _ => e653
  | 4, _ => e654
  | 5, _ => e655
  | 6, _ => e656
  | 7, _ => e657
  | 8, _ => e658
  | 9, _ => e659
  | c + 10, h => absurd h (by omega)
theorem eb6_6 : ∀ c, c < 10 → runE (660 + c) = .yes
  | 0, _ => e660
  | 1, _ => e661
  | 2, _ => e662
  | 3, _ => e663
  | 4, _ => e664
  | 5, _ => e665
  | 6, _ => e666
  | 7, _ => e667
  | 8, _ => e668
  | 9, _ => e669
  | c + 10, h => absurd h (by omega)
theorem eb6_7 : ∀ c, c < 10 → runE (670 + c) = .yes
  | 0, _ => e670
  | 1, _ => e671
  | 2, _ => e672
  | 3, _ => e673
  | 4, _ => e674
  | 5, _ => e675
  | 6, _ => e676
  | 7, _ => e677
  | 8, _ => e678
  | 9, _ => e679
  | c + 10, h => absurd h (by omega)
theorem eb6_8 : ∀ c, c < 10 → runE (680 + c) = .yes
  | 0, _ => e680
  | 1, _ => e681
  | 2, _ => e682
  | 3, _ => e683
  | 4, _ => e684
  | 5, _ => e685
  | 6, _ => e686
  | 7, _ => e687
  | 8, _ => e688
  | 9, _ => e689
  | c + 10, h => absurd h (by omega)
theorem eb6_9 : ∀ c, c < 10 → runE (690 + c) = .yes
  | 0, _ => e690
  | 1, _ => e691
  | 2, _ => e692
  | 3, _ => e693
  | 4, _ => e694
  | 5, _ => e695
  | 6, _ => e696
  | 7, _ => e697
  | 8, _ => e698
  | 9, _ => e699
  | c + 10, h => absurd h (by omega)
theorem ea6 : ∀ b, b < 10 → ∀ c, c < 10 → runE (600 + 10 * b + c) = .yes
  | 0, _ => eb6_0
  | 1, _ => eb6_1
  | 2, _ => eb6_2
  | 3, _ => eb6_3
  | 4, _ => eb6_4
  | 5, _ => eb6_5
  | 6, _ => eb6_6
  | 7, _ => eb6_7
  | 8, _ => eb6_8
  | 9, _ => eb6_9
  | b + 10, h => absurd h (by omega)
end Go.Proofs.YtmebdcipijgcnaaGreatDoor.liftOtherq
