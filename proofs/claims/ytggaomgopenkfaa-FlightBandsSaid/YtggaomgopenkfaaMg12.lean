/- Part 12 of the texts below the claim. Conditions: none. -/
import Derived.Test.YtggaomgopenkfaaMg9
import Derived.Test.YtggaomgopenkfaaMg10
import Derived.Test.YtggaomgopenkfaaMg11
set_option linter.unusedVariables false
set_option linter.unusedSimpArgs false
namespace Go.Proofs.Ytggaomgopenkfaa
open Go.Gi Go.RowKit
noncomputable section
set_option maxRecDepth 100000
set_option maxHeartbeats 4000000
def KAwake125:CF:=⟨69,[.agg wAwake4,.agg ⟨[vI 0,vI 0,vI 0,vI 10,vI 10,vI 0,vI 0,vI 0,vI 0,vI 0,vI 0,vI 0,vI 0]⟩,.agg wAwake20],.agg ⟨[vI 0,vI 0,vI 0,vI 0,vJ 97,vJ 97]⟩⟩
theorem kAwake125:KAwake125.Ok Try.prog:=CF.of2 noNG mixed (l:=[KAwake124,KAwake30]) (.cons kAwake124 (.cons kAwake30 .nil)) 3000 (by kernel_rfl)
def KAwake126:CF:=⟨119,[.agg wAwake20,.agg ⟨[vI 0,vI 0,vI 0,vI 0,vJ 97,vJ 97]⟩],.agg wAwake21⟩
theorem kAwake126:KAwake126.Ok Try.prog:=CF.of2 noNG mixed (l:=[]) .nil 3000 (by kernel_rfl)
def KAwake127:CF:=⟨68,[.agg wAwake21],vF⟩
theorem kAwake127:KAwake127.Ok Try.prog:=CF.of2 noNG mixed (l:=[]) .nil 3000 (by kernel_rfl)
def KAwake128:CF:=⟨70,[lstV wAwake0 0 1 13,vI 16],.agg ⟨[vI 0,vI 0,vI 0,vI 10,vI 10,vI 0,vI 0,vI 0,vI 0,vI 0,vI 0,vI 0,vI 0]⟩⟩
theorem kAwake128:KAwake128.Ok Try.prog:=CF.of2 noNG mixed (l:=[]) .nil 3000 (by kernel_rfl)
def KAwake129:CF:=⟨116,[.agg ⟨[vJ 301,vJ 297,vI 0,vI 0,vI 432,vI 432]⟩],.agg ⟨[vI 524,vI 528]⟩⟩
theorem kAwake129:KAwake129.Ok Try.prog:=CF.of2 noNG mixed (l:=[]) .nil 3000 (by kernel_rfl)
def KAwake130:CF:=⟨112,[.agg ⟨[vJ 301,vJ 297,vI 0,vI 0,vI 432,vI 432]⟩,.func (.func 111) ⟨[]⟩ ⟨[]⟩,.agg ⟨[vI 0,vI 0]⟩],.agg ⟨[vI 0,vI 0,vI 0,vI 0,vI 0,vI 0]⟩⟩
theorem kAwake130:KAwake130.Ok Try.prog:=CF.of2 noNG mixed (l:=[]) .nil 3000 (by kernel_rfl)
def KAwake131:CF:=⟨99,[.agg wAwake4,.agg ⟨[vI 0,vI 0,vI 0,vI 10,vI 10,vI 0,vI 0,vI 0,vI 0,vI 0,vI 0,vI 0,vI 0]⟩,.agg wAwake21],.agg ⟨[vI 0,vI 0,vI 0,vI 0,vI 0,vI 0]⟩⟩
theorem kAwake131:KAwake131.Ok Try.prog:=CF.of2 noNG mixed (l:=[KAwake129,KAwake130,KAwake15]) (.cons kAwake129 (.cons kAwake130 (.cons kAwake15 .nil))) 3000 (by kernel_rfl)
def KAwake132:CF:=⟨69,[.agg wAwake4,.agg ⟨[vI 0,vI 0,vI 0,vI 10,vI 10,vI 0,vI 0,vI 0,vI 0,vI 0,vI 0,vI 0,vI 0]⟩,.agg wAwake21],.agg ⟨[vI 0,vI 0,vI 0,vI 0,vJ 97,vJ 97]⟩⟩
theorem kAwake132:KAwake132.Ok Try.prog:=CF.of2 noNG mixed (l:=[KAwake131,KAwake30]) (.cons kAwake131 (.cons kAwake30 .nil)) 3000 (by kernel_rfl)
def KAwake133:CF:=⟨119,[.agg wAwake21,.agg ⟨[vI 0,vI 0,vI 0,vI 0,vJ 97,vJ 97]⟩],.agg wAwake22⟩
theorem kAwake133:KAwake133.Ok Try.prog:=CF.of2 noNG mixed (l:=[]) .nil 3000 (by kernel_rfl)
def KAwake134:CF:=⟨68,[.agg wAwake22],vF⟩
theorem kAwake134:KAwake134.Ok Try.prog:=CF.of2 noNG mixed (l:=[]) .nil 3000 (by kernel_rfl)
def KAwake135:CF:=⟨70,[lstV wAwake0 0 1 13,vI 17],.agg ⟨[vI 0,vI 0,vI 0,vI 10,vI 10,vI 0,vI 0,vI 0,vI 0,vI 0,vI 0,vI 0,vI 0]⟩⟩
theorem kAwake135:KAwake135.Ok Try.prog:=CF.of2 noNG mixed (l:=[]) .nil 3000 (by kernel_rfl)
def KAwake136:CF:=⟨116,[.agg ⟨[vJ 301,vJ 297,vI 0,vI 0,vI 334,vI 334]⟩],.agg ⟨[vI 447,vI 451]⟩⟩
theorem kAwake136:KAwake136.Ok Try.prog:=CF.of2 noNG mixed (l:=[]) .nil 3000 (by kernel_rfl)
def KAwake137:CF:=⟨112,[.agg ⟨[vJ 301,vJ 297,vI 0,vI 0,vI 334,vI 334]⟩,.func (.func 111) ⟨[]⟩ ⟨[]⟩,.agg ⟨[vI 0,vI 0]⟩],.agg ⟨[vI 0,vI 0,vI 0,vI 0,vI 0,vI 0]⟩⟩
theorem kAwake137:KAwake137.Ok Try.prog:=CF.of2 noNG mixed (l:=[]) .nil 3000 (by kernel_rfl)
def KAwake138:CF:=⟨99,[.agg wAwake4,.agg ⟨[vI 0,vI 0,vI 0,vI 10,vI 10,vI 0,vI 0,vI 0,vI 0,vI 0,vI 0,vI 0,vI 0]⟩,.agg wAwake22],.agg ⟨[vI 0,vI 0,vI 0,vI 0,vI 0,vI 0]⟩⟩
theorem kAwake138:KAwake138.Ok Try.prog:=CF.of2 noNG mixed (l:=[KAwake136,KAwake137,KAwake15]) (.cons kAwake136 (.cons kAwake137 (.cons kAwake15 .nil))) 3000 (by kernel_rfl)
def KAwake139:CF:=⟨69,[.agg wAwake4,.agg ⟨[vI 0,vI 0,vI 0,vI 10,vI 10,vI 0,vI 0,vI 0,vI 0,vI 0,vI 0,vI 0,vI 0]⟩,.agg wAwake22],.agg ⟨[vI 0,vI 0,vI 0,vI 0,vJ 97,vJ 97]⟩⟩
theorem kAwake139:KAwake139.Ok Try.prog:=CF.of2 noNG mixed (l:=[KAwake138,KAwake30]) (.cons kAwake138 (.cons kAwake30 .nil)) 3000 (by kernel_rfl)
def KAwake140:CF:=⟨119,[.agg wAwake22,.agg ⟨[vI 0,vI 0,vI 0,vI 0,vJ 97,vJ 97]⟩],.agg wAwake23⟩
theorem kAwake140:KAwake140.Ok Try.prog:=CF.of2 noNG mixed (l:=[]) .nil 3000 (by kernel_rfl)
def KAwake141:CF:=⟨68,[.agg wAwake23],vF⟩
theorem kAwake141:KAwake141.Ok Try.prog:=CF.of2 noNG mixed (l:=[]) .nil 3000 (by kernel_rfl)
def KAwake142:CF:=⟨70,[lstV wAwake0 0 1 13,vI 18],.agg ⟨[vI 0,vI 0,vI 0,vI 10,vI 10,vI 0,vI 0,vI 0,vI 0,vI 0,vI 0,vI 0,vI 0]⟩⟩
theorem kAwake142:KAwake142.Ok Try.prog:=CF.of2 noNG mixed (l:=[]) .nil 3000 (by kernel_rfl)
def KAwake143:CF:=⟨116,[.agg ⟨[vJ 301,vJ 297,vI 0,vI 0,vI 236,vI 236]⟩],.agg ⟨[vI 380,vI 384]⟩⟩
theorem kAwake143:KAwake143.Ok Try.prog:=CF.of2 noNG mixed (l:=[]) .nil 3000 (by kernel_rfl)
def KAwake144:CF:=⟨112,[.agg ⟨[vJ 301,vJ 297,vI 0,vI 0,vI 236,vI 236]⟩,.func (.func 111) ⟨[]⟩ ⟨[]⟩,.agg ⟨[vI 0,vI 0]⟩],.agg ⟨[vI 0,vI 0,vI 0,vI 0,vI 0,vI 0]⟩⟩
theorem kAwake144:KAwake144.Ok Try.prog:=CF.of2 noNG mixed (l:=[]) .nil 3000 (by kernel_rfl)
def KAwake145:CF:=⟨99,[.agg wAwake4,.agg ⟨[vI 0,vI 0,vI 0,vI 10,vI 10,vI 0,vI 0,vI 0,vI 0,vI 0,vI 0,vI 0,vI 0]⟩,.agg wAwake23],.agg ⟨[vI 0,vI 0,vI 0,vI 0,vI 0,vI 0]⟩⟩
theorem kAwake145:KAwake145.Ok Try.prog:=CF.of2 noNG mixed (l:=[KAwake144,KAwake15,KAwake143]) (.cons kAwake144 (.cons kAwake15 (.cons kAwake143 .nil))) 3000 (by kernel_rfl)
def KAwake146:CF:=⟨69,[.agg wAwake4,.agg ⟨[vI 0,vI 0,vI 0,vI 10,vI 10,vI 0,vI 0,vI 0,vI 0,vI 0,vI 0,vI 0,vI 0]⟩,.agg wAwake23],.agg ⟨[vI 0,vI 0,vI 0,vI 0,vJ 97,vJ 97]⟩⟩
theorem kAwake146:KAwake146.Ok Try.prog:=CF.of2 noNG mixed (l:=[KAwake145,KAwake30]) (.cons kAwake145 (.cons kAwake30 .nil)) 3000 (by kernel_rfl)
def KAwake147:CF:=⟨119,[.agg wAwake23,.agg ⟨[vI 0,vI 0,vI 0,vI 0,vJ 97,vJ 97]⟩],.agg wAwake24⟩
theorem kAwake147:KAwake147.Ok Try.prog:=CF.of2 noNG mixed (l:=[]) .nil 3000 (by kernel_rfl)
def KAwake148:CF:=⟨68,[.agg wAwake24],vF⟩
theorem kAwake148:KAwake148.Ok Try.prog:=CF.of2 noNG mixed (l:=[]) .nil 3000 (by kernel_rfl)
def KAwake149:CF:=⟨70,[lstV wAwake0 0 1 13,vI 19],.agg ⟨[vI 0,vI 0,vI 0,vI 10,vI 10,vI 0,vI 0,vI 0,vI 0,vI 0,vI 0,vI 0,vI 0]⟩⟩
theorem kAwake149:KAwake149.Ok Try.prog:=CF.of2 noNG mixed (l:=[]) .nil 3000 (by kernel_rfl)
def KAwake150:CF:=⟨116,[.agg ⟨[vJ 301,vJ 297,vI 0,vI 0,vI 138,vI 138]⟩],.agg ⟨[vI 328,vI 333]⟩⟩
theorem kAwake150:KAwake150.Ok Try.prog:=CF.of2 noNG mixed (l:=[]) .nil 3000 (by kernel_rfl)
def KAwake151:CF:=⟨112,[.agg ⟨[vJ 301,vJ 297,vI 0,vI 0,vI 138,vI 138]⟩,.func (.func 111) ⟨[]⟩ ⟨[]⟩,.agg ⟨[vI 0,vI 0]⟩],.agg ⟨[vI 0,vI 0,vI 0,vI 0,vI 0,vI 0]⟩⟩
theorem kAwake151:KAwake151.Ok Try.prog:=CF.of2 noNG mixed (l:=[]) .nil 3000 (by kernel_rfl)
def KAwake152:CF:=⟨99,[.agg wAwake4,.agg ⟨[vI 0,vI 0,vI 0,vI 10,vI 10,vI 0,vI 0,vI 0,vI 0,vI 0,vI 0,vI 0,vI 0]⟩,.agg wAwake24],.agg ⟨[vI 0,vI 0,vI 0,vI 0,vI 0,vI 0]⟩⟩
theorem kAwake152:KAwake152.Ok Try.prog:=CF.of2 noNG mixed (l:=[KAwake15,KAwake150,KAwake151]) (.cons kAwake15 (.cons kAwake150 (.cons kAwake151 .nil))) 3000 (by kernel_rfl)
def KAwake153:CF:=⟨69,[.agg wAwake4,.agg ⟨[vI 0,vI 0,vI 0,vI 10,vI 10,vI 0,vI 0,vI 0,vI 0,vI 0,vI 0,vI 0,vI 0]⟩,.agg wAwake24],.agg ⟨[vI 0,vI 0,vI 0,vI 0,vJ 97,vJ 97]⟩⟩
theorem kAwake153:KAwake153.Ok Try.prog:=CF.of2 noNG mixed (l:=[KAwake152,KAwake30]) (.cons kAwake152 (.cons kAwake30 .nil)) 3000 (by kernel_rfl)
def KAwake154:CF:=⟨119,[.agg wAwake24,.agg ⟨[vI 0,vI 0,vI 0,vI 0,vJ 97,vJ 97]⟩],.agg wAwake25⟩
theorem kAwake154:KAwake154.Ok Try.prog:=CF.of2 noNG mixed (l:=[]) .nil 3000 (by kernel_rfl)
def KAwake155:CF:=⟨68,[.agg wAwake25],vF⟩
theorem kAwake155:KAwake155.Ok Try.prog:=CF.of2 noNG mixed (l:=[]) .nil 3000 (by kernel_rfl)
def KAwake156:CF:=⟨70,[lstV wAwake0 0 1 13,vI 20],.agg ⟨[vI 0,vI 0,vI 0,vI 10,vI 10,vI 0,vI 0,vI 0,vI 0,vI 0,vI 0,vI 0,vI 0]⟩⟩
theorem kAwake156:KAwake156.Ok Try.prog:=CF.of2 noNG mixed (l:=[]) .nil 3000 (by kernel_rfl)
def KAwake157:CF:=⟨116,[.agg ⟨[vJ 301,vJ 297,vI 0,vI 0,vI 40,vI 40]⟩],.agg ⟨[vI 300,vI 305]⟩⟩
theorem kAwake157:KAwake157.Ok Try.prog:=CF.of2 noNG mixed (l:=[]) .nil 3000 (by kernel_rfl)
def KAwake158:CF:=⟨112,[.agg ⟨[vJ 301,vJ 297,vI 0,vI 0,vI 40,vI 40]⟩,.func (.func 111) ⟨[]⟩ ⟨[]⟩,.agg ⟨[vI 0,vI 0]⟩],.agg ⟨[vI 0,vI 0,vI 0,vI 0,vI 0,vI 0]⟩⟩
theorem kAwake158:KAwake158.Ok Try.prog:=CF.of2 noNG mixed (l:=[]) .nil 3000 (by kernel_rfl)
def KAwake159:CF:=⟨99,[.agg wAwake4,.agg ⟨[vI 0,vI 0,vI 0,vI 10,vI 10,vI 0,vI 0,vI 0,vI 0,vI 0,vI 0,vI 0,vI 0]⟩,.agg wAwake25],.agg ⟨[vI 0,vI 0,vI 0,vI 0,vI 0,vI 0]⟩⟩
theorem kAwake159:KAwake159.Ok Try.prog:=CF.of2 noNG mixed (l:=[KAwake157,KAwake158,KAwake15]) (.cons kAwake157 (.cons kAwake158 (.cons kAwake15 .nil))) 3000 (by kernel_rfl)
def KAwake160:CF:=⟨69,[.agg wAwake4,.agg ⟨[vI 0,vI 0,vI 0,vI 10,vI 10,vI 0,vI 0,vI 0,vI 0,vI 0,vI 0,vI 0,vI 0]⟩,.agg wAwake25],.agg ⟨[vI 0,vI 0,vI 0,vI 0,vJ 97,vJ 97]⟩⟩
theorem kAwake160:KAwake160.Ok Try.prog:=CF.of2 noNG mixed (l:=[KAwake30,KAwake159]) (.cons kAwake30 (.cons kAwake159 .nil)) 3000 (by kernel_rfl)
def KAwake161:CF:=⟨119,[.agg wAwake25,.agg ⟨[vI 0,vI 0,vI 0,vI 0,vJ 97,vJ 97]⟩],.agg wAwake26⟩
theorem kAwake161:KAwake161.Ok Try.prog:=CF.of2 noNG mixed (l:=[]) .nil 3000 (by kernel_rfl)
def KAwake162:CF:=⟨68,[.agg wAwake26],vF⟩
theorem kAwake162:KAwake162.Ok Try.prog:=CF.of2 noNG mixed (l:=[]) .nil 3000 (by kernel_rfl)
def KAwake163:CF:=⟨70,[lstV wAwake0 0 1 13,vI 21],.agg ⟨[vI 0,vI 0,vI 0,vI 10,vI 10,vI 0,vI 0,vI 0,vI 0,vI 0,vI 0,vI 0,vI 0]⟩⟩
theorem kAwake163:KAwake163.Ok Try.prog:=CF.of2 noNG mixed (l:=[]) .nil 3000 (by kernel_rfl)
def KAwake164:CF:=⟨116,[.agg ⟨[vJ 301,vJ 297,vI 0,vI 0,vJ 57,vJ 57]⟩],.agg ⟨[vI 303,vI 308]⟩⟩
theorem kAwake164:KAwake164.Ok Try.prog:=CF.of2 noNG mixed (l:=[]) .nil 3000 (by kernel_rfl)
def KAwake165:CF:=⟨112,[.agg ⟨[vJ 301,vJ 297,vI 0,vI 0,vJ 57,vJ 57]⟩,.func (.func 111) ⟨[]⟩ ⟨[]⟩,.agg ⟨[vI 0,vI 0]⟩],.agg ⟨[vI 0,vI 0,vI 0,vI 0,vI 0,vI 0]⟩⟩
theorem kAwake165:KAwake165.Ok Try.prog:=CF.of2 noNG mixed (l:=[]) .nil 3000 (by kernel_rfl)
def KAwake166:CF:=⟨99,[.agg wAwake4,.agg ⟨[vI 0,vI 0,vI 0,vI 10,vI 10,vI 0,vI 0,vI 0,vI 0,vI 0,vI 0,vI 0,vI 0]⟩,.agg wAwake26],.agg ⟨[vI 0,vI 0,vI 0,vI 0,vI 0,vI 0]⟩⟩
theorem kAwake166:KAwake166.Ok Try.prog:=CF.of2 noNG mixed (l:=[KAwake164,KAwake165,KAwake15]) (.cons kAwake164 (.cons kAwake165 (.cons kAwake15 .nil))) 3000 (by kernel_rfl)
def KAwake167:CF:=⟨69,[.agg wAwake4,.agg ⟨[vI 0,vI 0,vI 0,vI 10,vI 10,vI 0,vI 0,vI 0,vI 0,vI 0,vI 0,vI 0,vI 0]⟩,.agg wAwake26],.agg ⟨[vI 0,vI 0,vI 0,vI 0,vJ 97,vJ 97]⟩⟩
theorem kAwake167:KAwake167.Ok Try.prog:=CF.of2 noNG mixed (l:=[KAwake166,KAwake30]) (.cons kAwake166 (.cons kAwake30 .nil)) 3000 (by kernel_rfl)
def KAwake168:CF:=⟨119,[.agg wAwake26,.agg ⟨[vI 0,vI 0,vI 0,vI 0,vJ 97,vJ 97]⟩],.agg wAwake27⟩
theorem kAwake168:KAwake168.Ok Try.prog:=CF.of2 noNG mixed (l:=[]) .nil 3000 (by kernel_rfl)
def KAwake169:CF:=⟨68,[.agg wAwake27],vF⟩
theorem kAwake169:KAwake169.Ok Try.prog:=CF.of2 noNG mixed (l:=[]) .nil 3000 (by kernel_rfl)
def KAwake170:CF:=⟨70,[lstV wAwake0 0 1 13,vI 22],.agg ⟨[vI 0,vI 0,vI 0,vI 10,vI 10,vI 0,vI 0,vI 0,vI 0,vI 0,vI 0,vI 0,vI 0]⟩⟩
theorem kAwake170:KAwake170.Ok Try.prog:=CF.of2 noNG mixed (l:=[]) .nil 3000 (by kernel_rfl)
def KAwake171:CF:=⟨116,[.agg ⟨[vJ 301,vJ 297,vI 0,vI 0,vJ 155,vJ 155]⟩],.agg ⟨[vI 336,vI 340]⟩⟩
theorem kAwake171:KAwake171.Ok Try.prog:=CF.of2 noNG mixed (l:=[]) .nil 3000 (by kernel_rfl)
def KAwake172:CF:=⟨112,[.agg ⟨[vJ 301,vJ 297,vI 0,vI 0,vJ 155,vJ 155]⟩,.func (.func 111) ⟨[]⟩ ⟨[]⟩,.agg ⟨[vI 0,vI 0]⟩],.agg ⟨[vI 0,vI 0,vI 0,vI 0,vI 0,vI 0]⟩⟩
theorem kAwake172:KAwake172.Ok Try.prog:=CF.of2 noNG mixed (l:=[]) .nil 3000 (by kernel_rfl)
def KAwake173:CF:=⟨99,[.agg wAwake4,.agg ⟨[vI 0,vI 0,vI 0,vI 10,vI 10,vI 0,vI 0,vI 0,vI 0,vI 0,vI 0,vI 0,vI 0]⟩,.agg wAwake27],.agg ⟨[vI 0,vI 0,vI 0,vI 0,vI 0,vI 0]⟩⟩
theorem kAwake173:KAwake173.Ok Try.prog:=CF.of2 noNG mixed (l:=[KAwake171,KAwake172,KAwake15]) (.cons kAwake171 (.cons kAwake172 (.cons kAwake15 .nil))) 3000 (by kernel_rfl)
def KAwake174:CF:=⟨69,[.agg wAwake4,.agg ⟨[vI 0,vI 0,vI 0,vI 10,vI 10,vI 0,vI 0,vI 0,vI 0,vI 0,vI 0,vI 0,vI 0]⟩,.agg wAwake27],.agg ⟨[vI 0,vI 0,vI 0,vI 0,vJ 97,vJ 97]⟩⟩
theorem kAwake174:KAwake174.Ok Try.prog:=CF.of2 noNG mixed (l:=[KAwake173,KAwake30]) (.cons kAwake173 (.cons kAwake30 .nil)) 3000 (by kernel_rfl)
def KAwake175:CF:=⟨119,[.agg wAwake27,.agg ⟨[vI 0,vI 0,vI 0,vI 0,vJ 97,vJ 97]⟩],.agg wAwake28⟩
theorem kAwake175:KAwake175.Ok Try.prog:=CF.of2 noNG mixed (l:=[]) .nil 3000 (by kernel_rfl)
def KAwake176:CF:=⟨68,[.agg wAwake28],vF⟩
theorem kAwake176:KAwake176.Ok Try.prog:=CF.of2 noNG mixed (l:=[]) .nil 3000 (by kernel_rfl)
def KAwake177:CF:=⟨70,[lstV wAwake0 0 1 13,vI 23],.agg ⟨[vI 0,vI 0,vI 0,vI 10,vI 10,vI 0,vI 0,vI 0,vI 0,vI 0,vI 0,vI 0,vI 0]⟩⟩
theorem kAwake177:KAwake177.Ok Try.prog:=CF.of2 noNG mixed (l:=[]) .nil 3000 (by kernel_rfl)
def KAwake178:CF:=⟨116,[.agg ⟨[vJ 301,vJ 297,vI 0,vI 0,vJ 253,vJ 253]⟩],.agg ⟨[vI 391,vI 395]⟩⟩
theorem kAwake178:KAwake178.Ok Try.prog:=CF.of2 noNG mixed (l:=[]) .nil 3000 (by kernel_rfl)
def KAwake179:CF:=⟨112,[.agg ⟨[vJ 301,vJ 297,vI 0,vI 0,vJ 253,vJ 253]⟩,.func (.func 111) ⟨[]⟩ ⟨[]⟩,.agg ⟨[vI 0,vI 0]⟩],.agg ⟨[vI 0,vI 0,vI 0,vI 0,vI 0,vI 0]⟩⟩
theorem kAwake179:KAwake179.Ok Try.prog:=CF.of2 noNG mixed (l:=[]) .nil 3000 (by kernel_rfl)
def KAwake180:CF:=⟨99,[.agg wAwake4,.agg ⟨[vI 0,vI 0,vI 0,vI 10,vI 10,vI 0,vI 0,vI 0,vI 0,vI 0,vI 0,vI 0,vI 0]⟩,.agg wAwake28],.agg ⟨[vI 0,vI 0,vI 0,vI 0,vI 0,vI 0]⟩⟩
theorem kAwake180:KAwake180.Ok Try.prog:=CF.of2 noNG mixed (l:=[KAwake178,KAwake179,KAwake15]) (.cons kAwake178 (.cons kAwake179 (.cons kAwake15 .nil))) 3000 (by kernel_rfl)
def KAwake181:CF:=⟨69,[.agg wAwake4,.agg ⟨[vI 0,vI 0,vI 0,vI 10,vI 10,vI 0,vI 0,vI 0,vI 0,vI 0,vI 0,vI 0,vI 0]⟩,.agg wAwake28],.agg ⟨[vI 0,vI 0,vI 0,vI 0,vJ 97,vJ 97]⟩⟩
theorem kAwake181:KAwake181.Ok Try.prog:=CF.of2 noNG mixed (l:=[KAwake180,KAwake30]) (.cons kAwake180 (.cons kAwake30 .nil)) 3000 (by kernel_rfl)
def KAwake182:CF:=⟨119,[.agg wAwake28,.agg ⟨[vI 0,vI 0,vI 0,vI 0,vJ 97,vJ 97]⟩],.agg wAwake29⟩
theorem kAwake182:KAwake182.Ok Try.prog:=CF.of2 noNG mixed (l:=[]) .nil 3000 (by kernel_rfl)
def KAwake183:CF:=⟨68,[.agg wAwake29],vF⟩
theorem kAwake183:KAwake183.Ok Try.prog:=CF.of2 noNG mixed (l:=[]) .nil 3000 (by kernel_rfl)
def KAwake184:CF:=⟨70,[lstV wAwake0 0 1 13,vI 24],.agg ⟨[vI 0,vI 0,vI 0,vI 10,vI 10,vI 0,vI 0,vI 0,vI 0,vI 0,vI 0,vI 0,vI 0]⟩⟩
theorem kAwake184:KAwake184.Ok Try.prog:=CF.of2 noNG mixed (l:=[]) .nil 3000 (by kernel_rfl)
def KAwake185:CF:=⟨116,[.agg ⟨[vJ 301,vJ 297,vI 0,vI 0,vJ 351,vJ 351]⟩],.agg ⟨[vI 461,vI 464]⟩⟩
theorem kAwake185:KAwake185.Ok Try.prog:=CF.of2 noNG mixed (l:=[]) .nil 3000 (by kernel_rfl)
end
end Go.Proofs.Ytggaomgopenkfaa
