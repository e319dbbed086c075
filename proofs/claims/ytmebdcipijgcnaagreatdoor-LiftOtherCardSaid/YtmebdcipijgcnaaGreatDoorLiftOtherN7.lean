/-
  The law LiftOther at some of its cases: the run over the program ends in true. Conditions: none; these are closed facts.
-/
import Derived.Test.YtmebdcipijgcnaaGreatDoorLiftOtherA
namespace Go.Proofs.YtmebdcipijgcnaaGreatDoor.liftOtherq
open Go.Rn YtmebdcipijgcnaaGreatDoor.txt
set_option maxHeartbeats 400000000
theorem n700 : run 700 = .yes := by kernel_rfl
theorem n701 : run 701 = .yes := by kernel_rfl
theorem n702 : run 702 = .yes := by kernel_rfl
theorem n703 : run 703 = .yes := by kernel_rfl
theorem n704 : run 704 = .yes := by kernel_rfl
theorem n705 : run 705 = .yes := by kernel_rfl
theorem n706 : run 706 = .yes := by kernel_rfl
theorem n707 : run 707 = .yes := by kernel_rfl
theorem n708 : run 708 = .yes := by kernel_rfl
theorem n709 : run 709 = .yes := by kernel_rfl
theorem n710 : run 710 = .yes := by kernel_rfl
theorem n711 : run 711 = .yes := by kernel_rfl
theorem n712 : run 712 = .yes := by kernel_rfl
theorem n713 : run 713 = .yes := by kernel_rfl
theorem n714 : run 714 = .yes := by kernel_rfl
theorem n715 : run 715 = .yes := by kernel_rfl
theorem n716 : run 716 = .yes := by kernel_rfl
theorem n717 : run 717 = .yes := by kernel_rfl
theorem n718 : run 718 = .yes := by kernel_rfl
theorem n719 : run 719 = .yes := by kernel_rfl
theorem n720 : run 720 = .yes := by kernel_rfl
theorem n721 : run 721 = .yes := by kernel_rfl
theorem n722 : run 722 = .yes := by kernel_rfl
theorem n723 : run 723 = .yes := by kernel_rfl
theorem n724 : run 724 = .yes := by kernel_rfl
theorem n725 : run 725 = .yes := by kernel_rfl
theorem n726 : run 726 = .yes := by kernel_rfl
theorem n727 : run 727 = .yes := by kernel_rfl
theorem n728 : run 728 = .yes := by kernel_rfl
theorem n729 : run 729 = .yes := by kernel_rfl
theorem n730 : run 730 = .yes := by kernel_rfl
theorem n731 : run 731 = .yes := by kernel_rfl
theorem n732 : run 732 = .yes := by kernel_rfl
theorem n733 : run 733 = .yes := by kernel_rfl
theorem n734 : run 734 = .yes := by kernel_rfl
theorem n735 : run 735 = .yes := by kernel_rfl
theorem n736 : run 736 = .yes := by kernel_rfl
theorem n737 : run 737 = .yes := by kernel_rfl
theorem n738 : run 738 = .yes := by kernel_rfl
theorem n739 : run 739 = .yes := by kernel_rfl
theorem n740 : run 740 = .yes := by kernel_rfl
theorem n741 : run 741 = .yes := by kernel_rfl
theorem n742 : run 742 = .yes := by kernel_rfl
theorem n743 : run 743 = .yes := by kernel_rfl
theorem n744 : run 744 = .yes := by kernel_rfl
theorem n745 : run 745 = .yes := by kernel_rfl
theorem n746 : run 746 = .yes := by kernel_rfl
theorem n747 : run 747 = .yes := by kernel_rfl
theorem n748 : run 748 = .yes := by kernel_rfl
theorem n749 : run 749 = .yes := by kernel_rfl
theorem n750 : run 750 = .yes := by kernel_rfl
theorem n751 : run 751 = .yes := by kernel_rfl
theorem n752 : run 752 = .yes := by kernel_rfl
theorem n753 : run 753 = .yes := by kernel_rfl
theorem n754 : run 754 = .yes := by kernel_rfl
theorem n755 : run 755 = .yes := by kernel_rfl
theorem n756 : run 756 = .yes := by kernel_rfl
theorem n757 : run 757 = .yes := by kernel_rfl
theorem n758 : run 758 = .yes := by kernel_rfl
theorem n759 : run 759 = .yes := by kernel_rfl
theorem n760 : run 760 = .yes := by kernel_rfl
theorem n761 : run 761 = .yes := by kernel_rfl
theorem n762 : run 762 = .yes := by kernel_rfl
theorem n763 : run 763 = .yes := by kernel_rfl
theorem n764 : run 764 = .yes := by kernel_rfl
theorem n765 : run 765 = .yes := by kernel_rfl
theorem n766 : run 766 = .yes := by kernel_rfl
theorem n767 : run 767 = .yes := by kernel_rfl
theorem n768 : run 768 = .yes := by kernel_rfl
theorem n769 : run 769 = .yes := by kernel_rfl
theorem n770 : run 770 = .yes := by kernel_rfl
theorem n771 : run 771 = .yes := by kernel_rfl
theorem n772 : run 772 = .yes := by kernel_rfl
theorem n773 : run 773 = .yes := by kernel_rfl
theorem n774 : run 774 = .yes := by kernel_rfl
theorem n775 : run 775 = .yes := by kernel_rfl
theorem n776 : run 776 = .yes := by kernel_rfl
theorem n777 : run 777 = .yes := by kernel_rfl
theorem n778 : run 778 = .yes := by kernel_rfl
theorem n779 : run 779 = .yes := by kernel_rfl
theorem n780 : run 780 = .yes := by kernel_rfl
theorem n781 : run 781 = .yes := by kernel_rfl
theorem n782 : run 782 = .yes := by kernel_rfl
theorem n783 : run 783 = .yes := by kernel_rfl
theorem n784 : run 784 = .yes := by kernel_rfl
theorem n785 : run 785 = .yes := by kernel_rfl
theorem n786 : run 786 = .yes := by kernel_rfl
theorem n787 : run 787 = .yes := by kernel_rfl
theorem n788 : run 788 = .yes := by kernel_rfl
theorem n789 : run 789 = .yes := by kernel_rfl
theorem n790 : run 790 = .yes := by kernel_rfl
theorem n791 : run 791 = .yes := by kernel_rfl
theorem n792 : run 792 = .yes := by kernel_rfl
theorem n793 : run 793 = .yes := by kernel_rfl
theorem n794 : run 794 = .yes := by kernel_rfl
theorem n795 : run 795 = .yes := by kernel_rfl
theorem n796 : run 796 = .yes := by kernel_rfl
theorem n797 : run 797 = .yes := by kernel_rfl
theorem n798 : run 798 = .yes := by kernel_rfl
theorem n799 : run 799 = .yes := by kernel_rfl
theorem nb7_0 : ∀ c, c < 10 → run (700 + c) = .yes
  | 0, _ => n700
  | 1, _ => n701
  | 2, _ => n702
  | 3, _ => n703
  | 4, _ => n704
  | 5, _ => n705
  | 6, _ => n706
  | 7, _ => n707
  | 8, _ => n708
  | 9, _ => n709
  | c + 10, h => absurd h (by omega)
theorem nb7_1 : ∀ c, c < 10 → run (710 + c) = .yes
  | 0, _ => n710
  | 1, _ => n711
  | 2, _ => n712
  | 3, _ => n713
  | 4, _ => n714
  | 5, _ => n715
  | 6, _ => n716
  | 7, _ => n717
  | 8, _ => n718
  | 9, _ => n719
  | c + 10, h => absurd h (by omega)
theorem nb7_2 : ∀ c, c < 10 → run (720 + c) = .yes
  | 0, _ => n720
  | 1, _ => n721
  | 2, _ => n722
  | 3, _ => n723
  | 4, _ => n724
  | 5, _ => n725
  | 6, _ => n726
  | 7, _ => n727
  | 8, _ => n728
  | 9, _ => n729
  | c + 10, h => absurd h (by omega)
theorem nb7_3 : ∀ c, c < 10 → run (730 + c) = .yes
  | 0, _ => n730
  | 1, _ => n731
  | 2, _ => n732
  | 3, _ => n733
  | 4, _ => n734
  | 5, _ => n735
  | 6, _ => n736
  | 7, _ => n737
  | 8, _ => n738
  | 9, _ => n739
  | c + 10, h => absurd h (by omega)
theorem nb7_4 : ∀ c, c < 10 → run (740 + c) = .yes
  | 0, _ => n740
  | 1, _ => n741
  | 2, _ => n742
  | 3, _ => n743
  | 4, _ => n744
  | 5, _ => n745
  | 6, _ => n746
  | 7, _ => n747
  | 8, _ => n748
  | 9, _ => n749
  | c + 10, h => absurd h (by omega)
theorem nb7_5 : ∀ c, c < 10 → run (750 + c) = .yes
  | 0, _ => n750
  | 1, _ => n751
  | 2, _ => n752
  | 3, _ => n753
  | 4, _ => n754
  | 5, _ => n755
  | 6, _ => n756
  | 7, _ => n757
  | 8, _ => n758
  | 9, _ => n759
  | c + 10, h => absurd h (by omega)
theorem nb7_6 : ∀ c, c < 10 → run (760 + c) = .yes
  | 0, _ => n760
  | 1, _ => n761
  | 2, _ => n762
  | 3, _ => n763
  | 4, _ => n764
  | 5, _ => n765
  | 6, _ => n766
  | 7, _ => n767
  | 8, _ => n768
  | 9, _ => n769
  | c + 10, h => absurd h (by omega)
theorem nb7_7 : ∀ c, c < 10 → run (770 + c) = .yes
  | 0, _ => n770
  | 1, _ => n771
  | 2, _ => n772
  | 3, _ => n773
  | 4, _ => n774
  | 5, _ => n775
  | 6, _ => n776
  | 7, _ => n777
  | 8, _ => n778
  | 9, _ => n779
  | c + 10, h => absurd h (by omega)
theorem nb7_8 : ∀ c, c < 10 → run (780 + c) = .yes
  | 0, _ => n780
  | 1, _ => n781
  | 2, _ => n782
  | 3, _ => n783
  | 4, _ => n784
  | 5, _ => n785
  | 6, _ => n786
  | 7, _ => n787
  | 8, _ => n788
  | 9, _ => n789
  | c + 10, h => absurd h (by omega)
theorem nb7_9 : ∀ c, c < 10 → run (790 + c) = .yes
  | 0, _ => n790
  | 1, _ => n791
  | 2, _ => n792
  | 3, _ => n793
  | 4, _ => n794
  | 5, _ => n795
  | 6, _ => n796
  | 7, _ => n797
  | 8, _ => n798
  | 9, _ => n799
  | c + 10, h => absurd h (by omega)
theorem na7 : ∀ b, b < 10 → ∀ c, c < 10 → run (700 + 10 * b + c) = .yes
  | 0, _ => nb7_0
  | 1, _ => nb7_1
  | 2, _ => nb7_2
  | 3, _ => nb7_3
  | 4, _ => nb7_4
  | 5, _ => nb7_5
  | 6, _ => nb7_6
  | 7, _ => nb7_7
  | 8, _ => nb7_8
  | 9, _ => nb7_9
  | b + 10, h => absurd h (by omega)
end Go.Proofs.YtmebdcipijgcnaaGreatDoor.liftOtherq
