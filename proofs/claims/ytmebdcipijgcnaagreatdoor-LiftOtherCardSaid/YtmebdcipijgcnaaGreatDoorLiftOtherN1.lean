/-
  The law LiftOther at some of its cases: the run over the program ends in true. Conditions: none; these are closed facts.
-/
import Derived.Test.YtmebdcipijgcnaaGreatDoorLiftOtherA
namespace Go.Proofs.YtmebdcipijgcnaaGreatDoor.liftOtherq
open Go.Rn YtmebdcipijgcnaaGreatDoor.txt
set_option maxHeartbeats 400000000
theorem n100 : run 100 = .yes := by kernel_rfl
theorem n101 : run 101 = .yes := by kernel_rfl
theorem n102 : run 102 = .yes := by kernel_rfl
theorem n103 : run 103 = .yes := by kernel_rfl
theorem n104 : run 104 = .yes := by kernel_rfl
theorem n105 : run 105 = .yes := by kernel_rfl
theorem n106 : run 106 = .yes := by kernel_rfl
theorem n107 : run 107 = .yes := by kernel_rfl
theorem n108 : run 108 = .yes := by kernel_rfl
theorem n109 : run 109 = .yes := by kernel_rfl
theorem n110 : run 110 = .yes := by kernel_rfl
theorem n111 : run 111 = .yes := by kernel_rfl
theorem n112 : run 112 = .yes := by kernel_rfl
theorem n113 : run 113 = .yes := by kernel_rfl
theorem n114 : run 114 = .yes := by kernel_rfl
theorem n115 : run 115 = .yes := by kernel_rfl
theorem n116 : run 116 = .yes := by kernel_rfl
theorem n117 : run 117 = .yes := by kernel_rfl
theorem n118 : run 118 = .yes := by kernel_rfl
theorem n119 : run 119 = .yes := by kernel_rfl
theorem n120 : run 120 = .yes := by kernel_rfl
theorem n121 : run 121 = .yes := by kernel_rfl
theorem n122 : run 122 = .yes := by kernel_rfl
theorem n123 : run 123 = .yes := by kernel_rfl
theorem n124 : run 124 = .yes := by kernel_rfl
theorem n125 : run 125 = .yes := by kernel_rfl
theorem n126 : run 126 = .yes := by kernel_rfl
theorem n127 : run 127 = .yes := by kernel_rfl
theorem n128 : run 128 = .yes := by kernel_rfl
theorem n129 : run 129 = .yes := by kernel_rfl
theorem n130 : run 130 = .yes := by kernel_rfl
theorem n131 : run 131 = .yes := by kernel_rfl
theorem n132 : run 132 = .yes := by kernel_rfl
theorem n133 : run 133 = .yes := by kernel_rfl
theorem n134 : run 134 = .yes := by kernel_rfl
theorem n135 : run 135 = .yes := by kernel_rfl
theorem n136 : run 136 = .yes := by kernel_rfl
theorem n137 : run 137 = .yes := by kernel_rfl
theorem n138 : run 138 = .yes := by kernel_rfl
theorem n139 : run 139 = .yes := by kernel_rfl
theorem n140 : run 140 = .yes := by kernel_rfl
theorem n141 : run 141 = .yes := by kernel_rfl
theorem n142 : run 142 = .yes := by kernel_rfl
theorem n143 : run 143 = .yes := by kernel_rfl
theorem n144 : run 144 = .yes := by kernel_rfl
theorem n145 : run 145 = .yes := by kernel_rfl
theorem n146 : run 146 = .yes := by kernel_rfl
theorem n147 : run 147 = .yes := by kernel_rfl
theorem n148 : run 148 = .yes := by kernel_rfl
theorem n149 : run 149 = .yes := by kernel_rfl
theorem n150 : run 150 = .yes := by kernel_rfl
theorem n151 : run 151 = .yes := by kernel_rfl
theorem n152 : run 152 = .yes := by kernel_rfl
theorem n153 : run 153 = .yes := by kernel_rfl
theorem n154 : run 154 = .yes := by kernel_rfl
theorem n155 : run 155 = .yes := by kernel_rfl
theorem n156 : run 156 = .yes := by kernel_rfl
theorem n157 : run 157 = .yes := by kernel_rfl
theorem n158 : run 158 = .yes := by kernel_rfl
theorem n159 : run 159 = .yes := by kernel_rfl
theorem n160 : run 160 = .yes := by kernel_rfl
theorem n161 : run 161 = .yes := by kernel_rfl
theorem n162 : run 162 = .yes := by kernel_rfl
theorem n163 : run 163 = .yes := by kernel_rfl
theorem n164 : run 164 = .yes := by kernel_rfl
theorem n165 : run 165 = .yes := by kernel_rfl
theorem n166 : run 166 = .yes := by kernel_rfl
theorem n167 : run 167 = .yes := by kernel_rfl
theorem n168 : run 168 = .yes := by kernel_rfl
theorem n169 : run 169 = .yes := by kernel_rfl
theorem n170 : run 170 = .yes := by kernel_rfl
theorem n171 : run 171 = .yes := by kernel_rfl
theorem n172 : run 172 = .yes := by kernel_rfl
theorem n173 : run 173 = .yes := by kernel_rfl
theorem n174 : run 174 = .yes := by kernel_rfl
theorem n175 : run 175 = .yes := by kernel_rfl
theorem n176 : run 176 = .yes := by kernel_rfl
theorem n177 : run 177 = .yes := by kernel_rfl
theorem n178 : run 178 = .yes := by kernel_rfl
theorem n179 : run 179 = .yes := by kernel_rfl
theorem n180 : run 180 = .yes := by kernel_rfl
theorem n181 : run 181 = .yes := by kernel_rfl
theorem n182 : run 182 = .yes := by kernel_rfl
theorem n183 : run 183 = .yes := by kernel_rfl
theorem n184 : run 184 = .yes := by kernel_rfl
theorem n185 : run 185 = .yes := by kernel_rfl
theorem n186 : run 186 = .yes := by kernel_rfl
theorem n187 : run 187 = .yes := by kernel_rfl
theorem n188 : run 188 = .yes := by kernel_rfl
theorem n189 : run 189 = .yes := by kernel_rfl
theorem n190 : run 190 = .yes := by kernel_rfl
theorem n191 : run 191 = .yes := by kernel_rfl
theorem n192 : run 192 = .yes := by kernel_rfl
theorem n193 : run 193 = .yes := by kernel_rfl
theorem n194 : run 194 = .yes := by kernel_rfl
theorem n195 : run 195 = .yes := by kernel_rfl
theorem n196 : run 196 = .yes := by kernel_rfl
theorem n197 : run 197 = .yes := by kernel_rfl
theorem n198 : run 198 = .yes := by kernel_rfl
theorem n199 : run 199 = .yes := by kernel_rfl
theorem nb1_0 : ∀ c, c < 10 → run (100 + c) = .yes
  | 0, _ => n100
  | 1, _ => n101
  | 2, _ => n102
  | 3, _ => n103
  | 4, _ => n104
  | 5, _ => n105
  | 6, _ => n106
  | 7, _ => n107
  | 8, _ => n108
  | 9, _ => n109
  | c + 10, h => absurd h (by omega)
theorem nb1_1 : ∀ c, c < 10 → run (110 + c) = .yes
  | 0, _ => n110
  | 1, _ => n111
  | 2, _ => n112
  | 3, _ => n113
  | 4, _ => n114
  | 5, _ => n115
  | 6, _ => n116
  | 7, _ => n117
  | 8, _ => n118
  | 9, _ => n119
  | c + 10, h => absurd h (by omega)
theorem nb1_2 : ∀ c, c < 10 → run (120 + c) = .yes
  | 0, _ => n120
  | 1, _ => n121
  | 2, _ => n122
  | 3, _ => n123
  | 4, _ => n124
  | 5, _ => n125
  | 6, _ => n126
  | 7, _ => n127
  | 8, _ => n128
  | 9, _ => n129
  | c + 10, h => absurd h (by omega)
theorem nb1_3 : ∀ c, c < 10 → run (130 + c) = .yes
  | 0, _ => n130
  | 1, _ => n131
  | 2, _ => n132
  | 3, _ => n133
  | 4, _ => n134
  | 5, _ => n135
  | 6, _ => n136
  | 7, _ => n137
  | 8, _ => n138
  | 9, _ => n139
  | c + 10, h => absurd h (by omega)
theorem nb1_4 : ∀ c, c < 10 → run (140 + c) = .yes
  | 0, _ => n140
  | 1, _ => n141
  | 2, _ => n142
  | 3, _ => n143
  | 4, _ => n144
  | 5, _ => n145
  | 6, _ => n146
  | 7, _ => n147
  | 8, _ => n148
  | 9, _ => n149
  | c + 10, h => absurd h (by omega)
theorem nb1_5 : ∀ c, c < 10 → run (150 + c) = .yes
  | 0, _ => n150
  | 1, _ => n151
  | 2, _ => n152
  | 3, _ => n153
  | 4, _ => n154
  | 5, _ => n155
  | 6, _ => n156
  | 7, _ => n157
  | 8, _ => n158
  | 9, _ => n159
  | c + 10, h => absurd h (by omega)
theorem nb1_6 : ∀ c, c < 10 → run (160 + c) = .yes
  | 0, _ => n160
  | 1, _ => n161
  | 2, _ => n162
  | 3, _ => n163
  | 4, _ => n164
  | 5, _ => n165
  | 6, _ => n166
  | 7, _ => n167
  | 8, _ => n168
  | 9, _ => n169
  | c + 10, h => absurd h (by omega)
theorem nb1_7 : ∀ c, c < 10 → run (170 + c) = .yes
  | 0, _ => n170
  | 1, _ => n171
  | 2, _ => n172
  | 3, _ => n173
  | 4, _ => n174
  | 5, _ => n175
  | 6, _ => n176
  | 7, _ => n177
  | 8, _ => n178
  | 9, _ => n179
  | c + 10, h => absurd h (by omega)
theorem nb1_8 : ∀ c, c < 10 → run (180 + c) = .yes
  | 0, _ => n180
  | 1, _ => n181
  | 2, _ => n182
  | 3, _ => n183
  | 4, _ => n184
  | 5, _ => n185
  | 6, _ => n186
  | 7, _ => n187
  | 8, _ => n188
  | 9, _ => n189
  | c + 10, h => absurd h (by omega)
theorem nb1_9 : ∀ c, c < 10 → run (190 + c) = .yes
  | 0, _ => n190
  | 1, _ => n191
  | 2, _ => n192
  | 3, _ => n193
  | 4, _ => n194
  | 5, _ => n195
  | 6, _ => n196
  | 7, _ => n197
  | 8, _ => n198
  | 9, _ => n199
  | c + 10, h => absurd h (by omega)
theorem na1 : ∀ b, b < 10 → ∀ c, c < 10 → run (100 + 10 * b + c) = .yes
  | 0, _ => nb1_0
  | 1, _ => nb1_1
  | 2, _ => nb1_2
  | 3, _ => nb1_3
  | 4, _ => nb1_4
  | 5, _ => nb1_5
  | 6, _ => nb1_6
  | 7, _ => nb1_7
  | 8, _ => nb1_8
  | 9, _ => nb1_9
  | b + 10, h => absurd h (by omega)
end Go.Proofs.YtmebdcipijgcnaaGreatDoor.liftOtherq
