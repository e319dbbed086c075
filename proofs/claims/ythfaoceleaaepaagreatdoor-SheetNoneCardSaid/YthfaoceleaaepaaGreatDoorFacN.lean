/-
  What SheetNone may call, and what follows of it for its row. Conditions: none; these are closed facts.
-/
import Derived.Test.YthfaoceleaaepaaGreatDoorRows
import Derived.JoinedOf
namespace Go.Proofs.YthfaoceleaaepaaGreatDoor.fac
open Go
def cloL4 : List FuncId := [4, 5, 6, 8, 10, 11, 21, 31, 50, 98, 51, 52, 53, 99, 9, 12, 13, 14, 22, 16, 24, 25, 35, 67, 112, 173, 271, 113, 174, 34, 65, 108, 66, 109, 169, 263, 264, 265, 266, 267, 387, 388, 389, 390, 391, 269, 110, 170, 268, 270, 392, 393, 111, 172, 171, 15, 23, 32, 54, 100, 55, 101, 162, 255, 376, 491, 492, 163, 256, 377, 257, 258, 30, 49, 97, 158, 159, 251, 250, 252, 160, 161, 253, 254, 375, 356, 378, 259, 33, 56, 102, 57, 58, 59, 103, 69, 114, 175, 272, 273, 394, 176, 274, 177, 115, 60, 61, 105, 168, 126, 187, 262, 386, 78, 79, 104, 164, 165, 260, 379, 380, 381, 382, 383, 384, 385, 166, 167, 261, 62, 63, 106, 107, 64, 20, 17, 26, 36, 68, 37, 38, 70, 71, 18, 28, 39, 72, 116, 178, 275, 276, 277, 278, 395, 410, 201, 333, 512, 562, 412, 323, 563, 604, 564, 455, 456, 565, 605, 606, 623, 566, 567, 568, 569, 494, 493, 205, 338, 117, 179, 180, 73, 118, 119, 74, 120, 121, 181, 279, 396, 495, 397, 496, 497, 280, 281, 282, 398, 402, 374, 283, 284, 285, 286, 287, 288, 399, 401, 289, 400, 290, 291, 292, 403, 498, 499, 550, 597, 293, 404, 294, 40, 76, 123, 124, 184, 295, 405, 406, 500, 502, 138, 551, 506, 501, 505, 552, 554, 555, 504, 556, 557, 558, 509, 560, 561, 602, 603, 510, 599, 622, 600, 559, 601, 503, 553, 598, 507, 307, 407, 508, 125, 185, 296, 297, 298, 299, 408, 300, 301, 186, 303, 411, 302, 409, 511, 304, 413, 75, 122, 182, 183, 27, 19, 29, 43, 42, 80, 127, 188, 189, 305, 306, 414, 460, 544, 546, 545, 415, 461, 462, 416, 464, 417, 463, 418, 466, 419, 467, 308, 420, 513, 570, 607, 608, 624, 609, 610, 625, 626, 629, 611, 612, 613, 614, 514, 197, 571, 516, 515, 309, 128, 129, 190, 310, 311, 191, 312, 130, 141, 192, 313, 421, 422, 423, 424, 517, 524, 577, 572, 578, 433, 579, 616, 617, 580, 618, 581, 525, 518, 314, 426, 425, 519, 573, 574, 615, 627, 315, 427, 520, 575, 526, 521, 428, 522, 576, 523, 316, 429, 527, 528, 430, 529, 582, 583, 619, 584, 585, 620, 621, 628, 586, 587, 588, 589, 431, 432, 133, 317, 434, 435, 530, 531, 436, 532, 533, 590, 591, 437, 438, 81, 131, 193, 216, 349, 480, 350, 481, 548, 482, 351, 483, 352, 484, 485, 549, 486, 353, 194, 318, 347, 354, 439, 226, 360, 361, 359, 488, 487, 346, 357, 475, 220, 348, 476, 225, 477, 478, 479, 223, 219, 224, 358, 195, 319, 234, 364, 355, 320, 440, 441, 229, 362, 321, 442, 214, 363, 230, 210, 342, 469, 468, 534, 592, 232, 196, 322, 444, 445, 446, 535, 536, 537, 538, 539, 443, 447, 448, 540, 541, 593, 594, 595, 596, 542, 449, 450, 451, 452, 221, 83, 82, 132, 134, 198, 199, 324, 453, 84, 135, 136, 200, 325, 326, 454, 327, 328, 457, 458, 543, 329, 330, 331, 332, 137, 41, 77, 44, 45, 87, 148, 235, 365, 489, 366, 490, 367, 368, 369, 370, 149, 236, 85, 139, 202, 89, 150, 237, 238, 239, 371, 151, 240, 241, 152, 242, 334, 140, 203, 335, 336, 204, 337, 459, 142, 206, 207, 208, 340, 339, 465, 143, 144, 209, 341, 86, 145, 146, 211, 343, 470, 471, 218, 547, 472, 473, 212, 344, 474, 345, 213, 147, 215, 217, 222, 227, 228, 231, 233, 46, 88, 47, 91, 90, 92, 153, 243, 244, 245, 246, 372, 373, 93, 154, 247, 48, 95, 96, 156, 249, 157, 155, 248, 94, 7]
theorem clo4 : Tryz.prog.closure 4 = cloL4 := by kernel_rfl
theorem unf4 : Tryz.prog.unfollowed 4 = true := by
  unfold Program.unfollowed
  rw [clo4]
  kernel_rfl
theorem rec4 : Tryz.prog.recurses 4 = true := by
  unfold Program.recurses
  rw [unf4]
  rfl
theorem inp4 : Tryz.prog.inPlace 4 = Rows.sheetNoneRow.inPlace := by
  unfold Program.inPlace
  rw [clo4]
  kernel_rfl
theorem nam4 : Tryz.prog.varsNamed 4 = Rows.sheetNoneRow.named := by
  unfold Program.varsNamed
  rw [clo4]
  kernel_rfl
theorem qUnf4 : (Rows.sheetNoneRow.unfollowed == Tryz.pinned.checked.prog.unfollowed 4) = true := by
  show (Rows.sheetNoneRow.unfollowed == Tryz.prog.unfollowed 4) = true
  rw [unf4]
  rfl
theorem qRec4 : (Rows.sheetNoneRow.recurses == Tryz.pinned.checked.prog.recurses 4) = true := by
  show (Rows.sheetNoneRow.recurses == Tryz.prog.recurses 4) = true
  rw [rec4]
  rfl
theorem qInp4 : (Rows.sheetNoneRow.inPlace == Tryz.pinned.checked.prog.inPlace 4) = true := by
  show (Rows.sheetNoneRow.inPlace == Tryz.prog.inPlace 4) = true
  rw [inp4]
  exact beq_self_eq_true _
theorem qNam4 : (Rows.sheetNoneRow.named == Tryz.pinned.checked.prog.varsNamed 4) = true := by
  show (Rows.sheetNoneRow.named == Tryz.prog.varsNamed 4) = true
  rw [nam4]
  exact beq_self_eq_true _
end Go.Proofs.YthfaoceleaaepaaGreatDoor.fac
