/-
  The law LiftOther at some of its cases: the run over the program ends in true. Conditions: none; these are closed facts.
-/
import Derived.Test.YtmebdcipijgcnaaGreatDoorLiftOtherA
namespace Go.Proofs.YtmebdcipijgcnaaGreatDoor.liftOtherq
open Go.Rn YtmebdcipijgcnaaGreatDoor.txt
set_option maxHeartbeats 400000000
theorem e700 : runE 700 = .yes := by kernel_rfl
theorem e701 : runE 701 = .yes := by kernel_rfl
theorem e702 : runE 702 = .yes := by kernel_rfl
theorem e703 : runE 703 = .yes := by kernel_rfl
theorem e704 : runE 704 = .yes := by kernel_rfl
theorem e705 : runE 705 = .yes := by kernel_rfl
theorem e706 : runE 706 = .yes := by kernel_rfl
theorem e707 : runE 707 = .yes := by kernel_rfl
theorem e708 : runE 708 = .yes := by kernel_rfl
theorem e709 : runE 709 = .yes := by kernel_rfl
theorem e710 : runE 710 = .yes := by kernel_rfl
theorem e711 : runE 711 = .yes := by kernel_rfl
theorem e712 : runE 712 = .yes := by kernel_rfl
theorem e713 : runE 713 = .yes := by kernel_rfl
theorem e714 : runE 714 = .yes := by kernel_rfl
theorem e715 : runE 715 = .yes := by kernel_rfl
theorem e716 : runE 716 = .yes := by kernel_rfl
theorem e717 : runE 717 = .yes := by kernel_rfl
theorem e718 : runE 718 = .yes := by kernel_rfl
theorem e719 : runE 719 = .yes := by kernel_rfl
theorem e720 : runE 720 = .yes := by kernel_rfl
theorem e721 : runE 721 = .yes := by kernel_rfl
theorem e722 : runE 722 = .yes := by kernel_rfl
theorem e723 : runE 723 = .yes := by kernel_rfl
theorem e724 : runE 724 = .yes := by kernel_rfl
theorem e725 : runE 725 = .yes := by kernel_rfl
theorem e726 : runE 726 = .yes := by kernel_rfl
theorem e727 : runE 727 = .yes := by kernel_rfl
theorem e728 : runE 728 = .yes := by kernel_rfl
theorem e729 : runE 729 = .yes := by kernel_rfl
theorem e730 : runE 730 = .yes := by kernel_rfl
theorem e731 : runE 731 = .yes := by kernel_rfl
theorem e732 : runE 732 = .yes := by kernel_rfl
theorem e733 : runE 733 = .yes := by kernel_rfl
theorem e734 : runE 734 = .yes := by kernel_rfl
theorem e735 : runE 735 = .yes := by kernel_rfl
theorem e736 : runE 736 = .yes := by kernel_rfl
theorem e737 : runE 737 = .yes := by kernel_rfl
theorem e738 : runE 738 = .yes := by kernel_rfl
theorem e739 : runE 739 = .yes := by kernel_rfl
theorem e740 : runE 740 = .yes := by kernel_rfl
theorem e741 : runE 741 = .yes := by kernel_rfl
theorem e742 : runE 742 = .yes := by kernel_rfl
theorem e743 : runE 743 = .yes := by kernel_rfl
theorem e744 : runE 744 = .yes := by kernel_rfl
theorem e745 : runE 745 = .yes := by kernel_rfl
theorem e746 : runE 746 = .yes := by kernel_rfl
theorem e747 : runE 747 = .yes := by kernel_rfl
theorem e748 : runE 748 = .yes := by kernel_rfl
theorem e749 : runE 749 = .yes := by kernel_rfl
theorem e750 : runE 750 = .yes := by kernel_rfl
theorem e751 : runE 751 = .yes := by kernel_rfl
theorem e752 : runE 752 = .yes := by kernel_rfl
theorem e753 : runE 753 = .yes := by kernel_rfl
theorem e754 : runE 754 = .yes := by kernel_rfl
theorem e755 : runE 755 = .yes := by kernel_rfl
theorem e756 : runE 756 = .yes := by kernel_rfl
theorem e757 : runE 757 = .yes := by kernel_rfl
theorem e758 : runE 758 = .yes := by kernel_rfl
theorem e759 : runE 759 = .yes := by kernel_rfl
theorem e760 : runE 760 = .yes := by kernel_rfl
theorem e761 : runE 761 = .yes := by kernel_rfl
theorem e762 : runE 762 = .yes := by kernel_rfl
theorem e763 : runE 763 = .yes := by kernel_rfl
theorem e764 : runE 764 = .yes := by kernel_rfl
theorem e765 : runE 765 = .yes := by kernel_rfl
theorem e766 : runE 766 = .yes := by kernel_rfl
theorem e767 : runE 767 = .yes := by kernel_rfl
theorem e768 : runE 768 = .yes := by kernel_rfl
theorem e769 : runE 769 = .yes := by kernel_rfl
theorem e770 : runE 770 = .yes := by kernel_rfl
theorem e771 : runE 771 = .yes := by kernel_rfl
theorem e772 : runE 772 = .yes := by kernel_rfl
theorem e773 : runE 773 = .yes := by kernel_rfl
theorem e774 : runE 774 = .yes := by kernel_rfl
theorem e775 : runE 775 = .yes := by kernel_rfl
theorem e776 : runE 776 = .yes := by kernel_rfl
theorem e777 : runE 777 = .yes := by kernel_rfl
theorem e778 : runE 778 = .yes := by kernel_rfl
theorem e779 : runE 779 = .yes := by kernel_rfl
theorem e780 : runE 780 = .yes := by kernel_rfl
theorem e781 : runE 781 = .yes := by kernel_rfl
theorem e782 : runE 782 = .yes := by kernel_rfl
theorem e783 : runE 783 = .yes := by kernel_rfl
theorem e784 : runE 784 = .yes := by kernel_rfl
theorem e785 : runE 785 = .yes := by kernel_rfl
theorem e786 : runE 786 = .yes := by kernel_rfl
theorem e787 : runE 787 = .yes := by kernel_rfl
theorem e788 : runE 788 = .yes := by kernel_rfl
theorem e789 : runE 789 = .yes := by kernel_rfl
theorem e790 : runE 790 = .yes := by kernel_rfl
theorem e791 : runE 791 = .yes := by kernel_rfl
theorem e792 : runE 792 = .yes := by kernel_rfl
theorem e793 : runE 793 = .yes := by kernel_rfl
theorem e794 : runE 794 = .yes := by kernel_rfl
theorem e795 : runE 795 = .yes := by kernel_rfl
theorem e796 : runE 796 = .yes := by kernel_rfl
theorem e797 : runE 797 = .yes := by kernel_rfl
theorem e798 : runE 798 = .yes := by kernel_rfl
theorem e799 : runE 799 = .yes := by kernel_rfl
theorem eb7_0 : ∀ c, c < 10 → runE (700 + c) = .yes
  | 0, _ => e700
  | 1, _ => e701
  | 2, _ => e702
  | 3, _ => e703
  | 4, _ => e704
  | 5, _ => e705
  | 6, _ => e706
  | 7, _ => e707
  | 8, _ => e708
  | 9, _ => e709
  | c + 10, h => absurd h (by omega)
theorem eb7_1 : ∀ c, c < 10 → runE (710 + c) = .yes
  | 0, _ => e710
  | 1, _ => e711
  | 2, _ => e712
  | 3, _ => e713
  | 4, _ => e714
  | 5, _ => e715
  | 6, _ => e716
  | 7, _ => e717
  | 8, _ => e718
  | 9, _ => e719
  | c + 10, h => absurd h (by omega)
theorem eb7_2 : ∀ c, c < 10 → runE (720 + c) = .yes
  | 0, _ => e720
  | 1, _ => e721
  | 2, _ => e722
  | 3, _ => e723
  | 4, _ => e724
  | 5, _ => e725
  | 6, _ => e726
  | 7, _ => e727
  | 8, _ => e728
  | 9, _ => e729
  | c + 10, h => absurd h (by omega)
theorem eb7_3 : ∀ c, c < 10 → runE (730 + c) = .yes
  | 0, _ => e730
  | 1, _ => e731
  | 2, _ => e732
  | 3, _ => e733
  | 4, _ => e734
  | 5, _ => e735
  | 6, _ => e736
  | 7, _ => e737
  | 8, _ => e738
  | 9, _ => e739
  | c + 10, h => absurd h (by omega)
theorem eb7_4 : ∀ c, c < 10 → runE (740 + c) = .yes
  | 0, _ => e740
  | 1, _ => e741
  | 2, _ => e742
  | 3, _ => e743
  | 4, _ => e744
  | 5, _ => e745
  | 6, _ => e746
  | 7, _ => e747
  | 8, _ => e748
  | 9, _ => e749
  | c + 10, h => absurd h (by omega)
theorem eb7_5 : ∀ c, c < 10 → runE (750 + c) = .yes
  | 0, _ => e750
  | 1, _ => e751
  | 2, _ => e752
  | 3, _ => e753
  | 4, _ => e754
  | 5, _ => e755
  | 6, _ => e756
  | 7, _ => e757
  | 8, _ => e758
  | 9, _ => e759
  | c + 10, h => absurd h (by omega)
theorem eb7_6 : ∀ c, c < 10 → runE (760 + c) = .yes
  | 0, _ => e760
  | 1, _ => e761
  | 2, _ => e762
  | 3, _ => e763
  | 4, _ => e764
  | 5, _ => e765
  | 6, _ => e766
  | 7, _ => e767
  | 8, _ => e768
  | 9, _ => e769
  | c + 10, h => absurd h (by omega)
theorem eb7_7 : ∀ c, c < 10 → runE (770 + c) = .yes
  | 0, _ => e770
  | 1, _ => e771
  | 2, _ => e772
  | 3, _ => e773
  | 4, _ => e774
  | 5, _ => e775
  | 6, _ => e776
  | 7, _ => e777
  | 8, _ => e778
  | 9, _ => e779
  | c + 10, h => absurd h (by omega)
theorem eb7_8 : ∀ c, c < 10 → runE (780 + c) = .yes
  | 0, _ => e780
  | 1, _ => e781
  | 2, _ => e782
  | 3, _ => e783
  | 4, _ => e784
  | 5, _ => e785
  | 6, _ => e786
  | 7, _ => e787
  | 8, _ => e788
  | 9, _ => e789
  | c + 10, h => absurd h (by omega)
theorem eb7_9 : ∀ c, c < 10 → runE (790 + c) = .yes
  | 0, _ => e790
  | 1, _ => e791
  | 2, _ => e792
  | 3, _ => e793
  | 4, _ => e794
  | 5, _ => e795
  | 6, _ => e796
  | 7, _ => e797
  | 8, _ => e798
  | 9, _ => e799
  | c + 10, h => absurd h (by omega)
theorem ea7 : ∀ b, b < 10 → ∀ c, c < 10 → runE (700 + 10 * b + c) = .yes
  | 0, _ => eb7_0
  | 1, _ => eb7_1
  | 2, _ => eb7_2
  | 3, _ => eb7_3
  | 4, _ => eb7_4
  | 5, _ => eb7_5
  | 6, _ => eb7_6
  | 7, _ => eb7_7
  | 8, _ => eb7_8
  | 9, _ => eb7_9
  | b + 10, h => absurd h (by omega)
end Go.Proofs.YtmebdcipijgcnaaGreatDoor.liftOtherq
