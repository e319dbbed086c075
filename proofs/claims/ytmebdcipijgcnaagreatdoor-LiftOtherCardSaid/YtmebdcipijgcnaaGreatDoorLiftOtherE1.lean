/-
  The law LiftOther at some of its cases: the run over the program ends in true. Conditions: none; these are closed facts.
-/
import Derived.Test.YtmebdcipijgcnaaGreatDoorLiftOtherA
namespace Go.Proofs.YtmebdcipijgcnaaGreatDoor.liftOtherq
open Go.Rn YtmebdcipijgcnaaGreatDoor.txt
set_option maxHeartbeats 400000000
theorem e100 : runE 100 = .yes := by kernel_rfl
theorem e101 : runE 101 = .yes := by kernel_rfl
theorem e102 : runE 102 = .yes := by kernel_rfl
theorem e103 : runE 103 = .yes := by kernel_rfl
theorem e104 : runE 104 = .yes := by kernel_rfl
theorem e105 : runE 105 = .yes := by kernel_rfl
theorem e106 : runE 106 = .yes := by kernel_rfl
theorem e107 : runE 107 = .yes := by kernel_rfl
theorem e108 : runE 108 = .yes := by kernel_rfl
theorem e109 : runE 109 = .yes := by kernel_rfl
theorem e110 : runE 110 = .yes := by kernel_rfl
theorem e111 : runE 111 = .yes := by kernel_rfl
theorem e112 : runE 112 = .yes := by kernel_rfl
theorem e113 : runE 113 = .yes := by kernel_rfl
theorem e114 : runE 114 = .yes := by kernel_rfl
theorem e115 : runE 115 = .yes := by kernel_rfl
theorem e116 : runE 116 = .yes := by kernel_rfl
theorem e117 : runE 117 = .yes := by kernel_rfl
theorem e118 : runE 118 = .yes := by kernel_rfl
theorem e119 : runE 119 = .yes := by kernel_rfl
theorem e120 : runE 120 = .yes := by kernel_rfl
theorem e121 : runE 121 = .yes := by kernel_rfl
theorem e122 : runE 122 = .yes := by kernel_rfl
theorem e123 : runE 123 = .yes := by kernel_rfl
theorem e124 : runE 124 = .yes := by kernel_rfl
theorem e125 : runE 125 = .yes := by kernel_rfl
theorem e126 : runE 126 = .yes := by kernel_rfl
theorem e127 : runE 127 = .yes := by kernel_rfl
theorem e128 : runE 128 = .yes := by kernel_rfl
theorem e129 : runE 129 = .yes := by kernel_rfl
theorem e130 : runE 130 = .yes := by kernel_rfl
theorem e131 : runE 131 = .yes := by kernel_rfl
theorem e132 : runE 132 = .yes := by kernel_rfl
theorem e133 : runE 133 = .yes := by kernel_rfl
theorem e134 : runE 134 = .yes := by kernel_rfl
theorem e135 : runE 135 = .yes := by kernel_rfl
theorem e136 : runE 136 = .yes := by kernel_rfl
theorem e137 : runE 137 = .yes := by kernel_rfl
theorem e138 : runE 138 = .yes := by kernel_rfl
theorem e139 : runE 139 = .yes := by kernel_rfl
theorem e140 : runE 140 = .yes := by kernel_rfl
theorem e141 : runE 141 = .yes := by kernel_rfl
theorem e142 : runE 142 = .yes := by kernel_rfl
theorem e143 : runE 143 = .yes := by kernel_rfl
theorem e144 : runE 144 = .yes := by kernel_rfl
theorem e145 : runE 145 = .yes := by kernel_rfl
theorem e146 : runE 146 = .yes := by kernel_rfl
theorem e147 : runE 147 = .yes := by kernel_rfl
theorem e148 : runE 148 = .yes := by kernel_rfl
theorem e149 : runE 149 = .yes := by kernel_rfl
theorem e150 : runE 150 = .yes := by kernel_rfl
theorem e151 : runE 151 = .yes := by kernel_rfl
theorem e152 : runE 152 = .yes := by kernel_rfl
theorem e153 : runE 153 = .yes := by kernel_rfl
theorem e154 : runE 154 = .yes := by kernel_rfl
theorem e155 : runE 155 = .yes := by kernel_rfl
theorem e156 : runE 156 = .yes := by kernel_rfl
theorem e157 : runE 157 = .yes := by kernel_rfl
theorem e158 : runE 158 = .yes := by kernel_rfl
theorem e159 : runE 159 = .yes := by kernel_rfl
theorem e160 : runE 160 = .yes := by kernel_rfl
theorem e161 : runE 161 = .yes := by kernel_rfl
theorem e162 : runE 162 = .yes := by kernel_rfl
theorem e163 : runE 163 = .yes := by kernel_rfl
theorem e164 : runE 164 = .yes := by kernel_rfl
theorem e165 : runE 165 = .yes := by kernel_rfl
theorem e166 : runE 166 = .yes := by kernel_rfl
theorem e167 : runE 167 = .yes := by kernel_rfl
theorem e168 : runE 168 = .yes := by kernel_rfl
theorem e169 : runE 169 = .yes := by kernel_rfl
theorem e170 : runE 170 = .yes := by kernel_rfl
theorem e171 : runE 171 = .yes := by kernel_rfl
theorem e172 : runE 172 = .yes := by kernel_rfl
theorem e173 : runE 173 = .yes := by kernel_rfl
theorem e174 : runE 174 = .yes := by kernel_rfl
theorem e175 : runE 175 = .yes := by kernel_rfl
theorem e176 : runE 176 = .yes := by kernel_rfl
theorem e177 : runE 177 = .yes := by kernel_rfl
theorem e178 : runE 178 = .yes := by kernel_rfl
theorem e179 : runE 179 = .yes := by kernel_rfl
theorem e180 : runE 180 = .yes := by kernel_rfl
theorem e181 : runE 181 = .yes := by kernel_rfl
theorem e182 : runE 182 = .yes := by kernel_rfl
theorem e183 : runE 183 = .yes := by kernel_rfl
theorem e184 : runE 184 = .yes := by kernel_rfl
theorem e185 : runE 185 = .yes := by kernel_rfl
theorem e186 : runE 186 = .yes := by kernel_rfl
theorem e187 : runE 187 = .yes := by kernel_rfl
theorem e188 : runE 188 = .yes := by kernel_rfl
theorem e189 : runE 189 = .yes := by kernel_rfl
theorem e190 : runE 190 = .yes := by kernel_rfl
theorem e191 : runE 191 = .yes := by kernel_rfl
theorem e192 : runE 192 = .yes := by kernel_rfl
theorem e193 : runE 193 = .yes := by kernel_rfl
theorem e194 : runE 194 = .yes := by kernel_rfl
theorem e195 : runE 195 = .yes := by kernel_rfl
theorem e196 : runE 196 = .yes := by kernel_rfl
theorem e197 : runE 197 = .yes := by kernel_rfl
theorem e198 : runE 198 = .yes := by kernel_rfl
theorem e199 : runE 199 = .yes := by kernel_rfl
theorem eb1_0 : ∀ c, c < 10 → runE (100 + c) = .yes
  | 0, _ => e100
  | 1, _ => e101
  | 2, _ => e102
  | 3, _ => e103
  | 4, _ => e104
  | 5, _ => e105
  | 6, _ => e106
  | 7, _ => e107
  | 8, _ => e108
  | 9, _ => e109
  | c + 10, h => absurd h (by omega)
theorem eb1_1 : ∀ c, c < 10 → runE (110 + c) = .yes
  | 0, _ => e110
  | 1, _ => e111
  | 2, _ => e112
  | 3, _ => e113
  | 4, _ => e114
  | 5, _ => e115
  | 6, _ => e116
  | 7, _ => e117
  | 8, _ => e118
  | 9, _ => e119
  | c + 10, h => absurd h (by omega)
theorem eb1_2 : ∀ c, c < 10 → runE (120 + c) = .yes
  | 0, _ => e120
  | 1, _ => e121
  | 2, _ => e122
  | 3, _ => e123
  | 4, _ => e124
  | 5, _ => e125
  | 6, _ => e126
  | 7, _ => e127
  | 8, _ => e128
  | 9, _ => e129
  | c + 10, h => absurd h (by omega)
theorem eb1_3 : ∀ c, c < 10 → runE (130 + c) = .yes
  | 0, _ => e130
  | 1, _ => e131
  | 2, _ => e132
  | 3, _ => e133
  | 4, _ => e134
  | 5, _ => e135
  | 6, _ => e136
  | 7, _ => e137
  | 8, _ => e138
  | 9, _ => e139
  | c + 10, h => absurd h (by omega)
theorem eb1_4 : ∀ c, c < 10 → runE (140 + c) = .yes
  | 0, _ => e140
  | 1, _ => e141
  | 2, _ => e142
  | 3, _ => e143
  | 4, _ => e144
  | 5, _ => e145
  | 6, _ => e146
  | 7, _ => e147
  | 8, _ => e148
  | 9, _ => e149
  | c + 10, h => absurd h (by omega)
theorem eb1_5 : ∀ c, c < 10 → runE (150 + c) = .yes
  | 0, _ => e150
  | 1, _ => e151
  | 2, _ => e152
  | 3, _ => e153
  | 4, _ => e154
  | 5, _ => e155
  | 6, _ => e156
  | 7, _ => e157
  | 8, _ => e158
  | 9, _ => e159
  | c + 10, h => absurd h (by omega)
theorem eb1_6 : ∀ c, c < 10 → runE (160 + c) = .yes
  | 0, _ => e160
  | 1, _ => e161
  | 2, _ => e162
  | 3, _ => e163
  | 4, _ => e164
  | 5, _ => e165
  | 6, _ => e166
  | 7, _ => e167
  | 8, _ => e168
  | 9, _ => e169
  | c + 10, h => absurd h (by omega)
theorem eb1_7 : ∀ c, c < 10 → runE (170 + c) = .yes
  | 0, _ => e170
  | 1, _ => e171
  | 2, _ => e172
  | 3, _ => e173
  | 4, _ => e174
  | 5, _ => e175
  | 6, _ => e176
  | 7, _ => e177
  | 8, _ => e178
  | 9, _ => e179
  | c + 10, h => absurd h (by omega)
theorem eb1_8 : ∀ c, c < 10 → runE (180 + c) = .yes
  | 0, _ => e180
  | 1, _ => e181
  | 2, _ => e182
  | 3, _ => e183
  | 4, _ => e184
  | 5, _ => e185
  | 6, _ => e186
  | 7, _ => e187
  | 8, _ => e188
  | 9, _ => e189
  | c + 10, h => absurd h (by omega)
theorem eb1_9 : ∀ c, c < 10 → runE (190 + c) = .yes
  | 0, _ => e190
  | 1, _ => e191
  | 2, _ => e192
  | 3, _ => e193
  | 4, _ => e194
  | 5, _ => e195
  | 6, _ => e196
  | 7, _ => e197
  | 8, _ => e198
  | 9, _ => e199
  | c + 10, h => absurd h (by omega)
theorem ea1 : ∀ b, b < 10 → ∀ c, c < 10 → runE (100 + 10 * b + c) = .yes
  | 0, _ => eb1_0
  | 1, _ => eb1_1
  | 2, _ => eb1_2
  | 3, _ => eb1_3
  | 4, _ => eb1_4
  | 5, _ => eb1_5
  | 6, _ => eb1_6
  | 7, _ => eb1_7
  | 8, _ => eb1_8
  | 9, _ => eb1_9
  | b + 10, h => absurd h (by omega)
end Go.Proofs.YtmebdcipijgcnaaGreatDoor.liftOtherq
