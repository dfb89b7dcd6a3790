/- Part 11 of the texts below the claim. Conditions: none. -/
import Derived.Test.YtggaomgopenkfaaMg9
import Derived.Test.YtggaomgopenkfaaMg10
set_option linter.unusedVariables false
set_option linter.unusedSimpArgs false
namespace Go.Proofs.Ytggaomgopenkfaa
open Go.Gi Go.RowKit
noncomputable section
set_option maxRecDepth 100000
set_option maxHeartbeats 4000000
def KAwake64:CF:=⟨68,[.agg wAwake12],vF⟩
theorem kAwake64:KAwake64.Ok Try.prog:=CF.of2 noNG mixed (l:=[]) .nil 3000 (by kernel_rfl)
def KAwake65:CF:=⟨70,[lstV wAwake0 0 1 13,vI 7],.agg ⟨[vI 0,vI 0,vI 0,vI 10,vI 10,vI 0,vI 0,vI 0,vI 0,vI 0,vI 0,vI 0,vI 0]⟩⟩
theorem kAwake65:KAwake65.Ok Try.prog:=CF.of2 noNG mixed (l:=[]) .nil 3000 (by kernel_rfl)
def KAwake66:CF:=⟨116,[.agg ⟨[vJ 301,vJ 297,vI 0,vI 0,vI 1314,vI 1314]⟩],.agg ⟨[vI 1347,vI 1349]⟩⟩
theorem kAwake66:KAwake66.Ok Try.prog:=CF.of2 noNG mixed (l:=[]) .nil 3000 (by kernel_rfl)
def KAwake67:CF:=⟨112,[.agg ⟨[vJ 301,vJ 297,vI 0,vI 0,vI 1314,vI 1314]⟩,.func (.func 111) ⟨[]⟩ ⟨[]⟩,.agg ⟨[vI 0,vI 0]⟩],.agg ⟨[vI 0,vI 0,vI 0,vI 0,vI 0,vI 0]⟩⟩
theorem kAwake67:KAwake67.Ok Try.prog:=CF.of2 noNG mixed (l:=[]) .nil 3000 (by kernel_rfl)
def KAwake68:CF:=⟨99,[.agg wAwake4,.agg ⟨[vI 0,vI 0,vI 0,vI 10,vI 10,vI 0,vI 0,vI 0,vI 0,vI 0,vI 0,vI 0,vI 0]⟩,.agg wAwake12],.agg ⟨[vI 0,vI 0,vI 0,vI 0,vI 0,vI 0]⟩⟩
theorem kAwake68:KAwake68.Ok Try.prog:=CF.of2 noNG mixed (l:=[KAwake66,KAwake67,KAwake15]) (.cons kAwake66 (.cons kAwake67 (.cons kAwake15 .nil))) 3000 (by kernel_rfl)
def KAwake69:CF:=⟨69,[.agg wAwake4,.agg ⟨[vI 0,vI 0,vI 0,vI 10,vI 10,vI 0,vI 0,vI 0,vI 0,vI 0,vI 0,vI 0,vI 0]⟩,.agg wAwake12],.agg ⟨[vI 0,vI 0,vI 0,vI 0,vJ 97,vJ 97]⟩⟩
theorem kAwake69:KAwake69.Ok Try.prog:=CF.of2 noNG mixed (l:=[KAwake68,KAwake30]) (.cons kAwake68 (.cons kAwake30 .nil)) 3000 (by kernel_rfl)
def KAwake70:CF:=⟨119,[.agg wAwake12,.agg ⟨[vI 0,vI 0,vI 0,vI 0,vJ 97,vJ 97]⟩],.agg wAwake13⟩
theorem kAwake70:KAwake70.Ok Try.prog:=CF.of2 noNG mixed (l:=[]) .nil 3000 (by kernel_rfl)
def KAwake71:CF:=⟨68,[.agg wAwake13],vF⟩
theorem kAwake71:KAwake71.Ok Try.prog:=CF.of2 noNG mixed (l:=[]) .nil 3000 (by kernel_rfl)
def KAwake72:CF:=⟨70,[lstV wAwake0 0 1 13,vI 8],.agg ⟨[vI 0,vI 0,vI 0,vI 10,vI 10,vI 0,vI 0,vI 0,vI 0,vI 0,vI 0,vI 0,vI 0]⟩⟩
theorem kAwake72:KAwake72.Ok Try.prog:=CF.of2 noNG mixed (l:=[]) .nil 3000 (by kernel_rfl)
def KAwake73:CF:=⟨116,[.agg ⟨[vJ 301,vJ 297,vI 0,vI 0,vI 1216,vI 1216]⟩],.agg ⟨[vI 1251,vI 1253]⟩⟩
theorem kAwake73:KAwake73.Ok Try.prog:=CF.of2 noNG mixed (l:=[]) .nil 3000 (by kernel_rfl)
def KAwake74:CF:=⟨112,[.agg ⟨[vJ 301,vJ 297,vI 0,vI 0,vI 1216,vI 1216]⟩,.func (.func 111) ⟨[]⟩ ⟨[]⟩,.agg ⟨[vI 0,vI 0]⟩],.agg ⟨[vI 0,vI 0,vI 0,vI 0,vI 0,vI 0]⟩⟩
theorem kAwake74:KAwake74.Ok Try.prog:=CF.of2 noNG mixed (l:=[]) .nil 3000 (by kernel_rfl)
def KAwake75:CF:=⟨99,[.agg wAwake4,.agg ⟨[vI 0,vI 0,vI 0,vI 10,vI 10,vI 0,vI 0,vI 0,vI 0,vI 0,vI 0,vI 0,vI 0]⟩,.agg wAwake13],.agg ⟨[vI 0,vI 0,vI 0,vI 0,vI 0,vI 0]⟩⟩
theorem kAwake75:KAwake75.Ok Try.prog:=CF.of2 noNG mixed (l:=[KAwake73,KAwake74,KAwake15]) (.cons kAwake73 (.cons kAwake74 (.cons kAwake15 .nil))) 3000 (by kernel_rfl)
def KAwake76:CF:=⟨69,[.agg wAwake4,.agg ⟨[vI 0,vI 0,vI 0,vI 10,vI 10,vI 0,vI 0,vI 0,vI 0,vI 0,vI 0,vI 0,vI 0]⟩,.agg wAwake13],.agg ⟨[vI 0,vI 0,vI 0,vI 0,vJ 97,vJ 97]⟩⟩
theorem kAwake76:KAwake76.Ok Try.prog:=CF.of2 noNG mixed (l:=[KAwake75,KAwake30]) (.cons kAwake75 (.cons kAwake30 .nil)) 3000 (by kernel_rfl)
def KAwake77:CF:=⟨119,[.agg wAwake13,.agg ⟨[vI 0,vI 0,vI 0,vI 0,vJ 97,vJ 97]⟩],.agg wAwake14⟩
theorem kAwake77:KAwake77.Ok Try.prog:=CF.of2 noNG mixed (l:=[]) .nil 3000 (by kernel_rfl)
def KAwake78:CF:=⟨68,[.agg wAwake14],vF⟩
theorem kAwake78:KAwake78.Ok Try.prog:=CF.of2 noNG mixed (l:=[]) .nil 3000 (by kernel_rfl)
def KAwake79:CF:=⟨70,[lstV wAwake0 0 1 13,vI 9],.agg ⟨[vI 0,vI 0,vI 0,vI 10,vI 10,vI 0,vI 0,vI 0,vI 0,vI 0,vI 0,vI 0,vI 0]⟩⟩
theorem kAwake79:KAwake79.Ok Try.prog:=CF.of2 noNG mixed (l:=[]) .nil 3000 (by kernel_rfl)
def KAwake80:CF:=⟨116,[.agg ⟨[vJ 301,vJ 297,vI 0,vI 0,vI 1118,vI 1118]⟩],.agg ⟨[vI 1157,vI 1159]⟩⟩
theorem kAwake80:KAwake80.Ok Try.prog:=CF.of2 noNG mixed (l:=[]) .nil 3000 (by kernel_rfl)
def KAwake81:CF:=⟨112,[.agg ⟨[vJ 301,vJ 297,vI 0,vI 0,vI 1118,vI 1118]⟩,.func (.func 111) ⟨[]⟩ ⟨[]⟩,.agg ⟨[vI 0,vI 0]⟩],.agg ⟨[vI 0,vI 0,vI 0,vI 0,vI 0,vI 0]⟩⟩
theorem kAwake81:KAwake81.Ok Try.prog:=CF.of2 noNG mixed (l:=[]) .nil 3000 (by kernel_rfl)
def KAwake82:CF:=⟨99,[.agg wAwake4,.agg ⟨[vI 0,vI 0,vI 0,vI 10,vI 10,vI 0,vI 0,vI 0,vI 0,vI 0,vI 0,vI 0,vI 0]⟩,.agg wAwake14],.agg ⟨[vI 0,vI 0,vI 0,vI 0,vI 0,vI 0]⟩⟩
theorem kAwake82:KAwake82.Ok Try.prog:=CF.of2 noNG mixed (l:=[KAwake80,KAwake81,KAwake15]) (.cons kAwake80 (.cons kAwake81 (.cons kAwake15 .nil))) 3000 (by kernel_rfl)
def KAwake83:CF:=⟨69,[.agg wAwake4,.agg ⟨[vI 0,vI 0,vI 0,vI 10,vI 10,vI 0,vI 0,vI 0,vI 0,vI 0,vI 0,vI 0,vI 0]⟩,.agg wAwake14],.agg ⟨[vI 0,vI 0,vI 0,vI 0,vJ 97,vJ 97]⟩⟩
theorem kAwake83:KAwake83.Ok Try.prog:=CF.of2 noNG mixed (l:=[KAwake82,KAwake30]) (.cons kAwake82 (.cons kAwake30 .nil)) 3000 (by kernel_rfl)
def KAwake84:CF:=⟨119,[.agg wAwake14,.agg ⟨[vI 0,vI 0,vI 0,vI 0,vJ 97,vJ 97]⟩],.agg wAwake15⟩
theorem kAwake84:KAwake84.Ok Try.prog:=CF.of2 noNG mixed (l:=[]) .nil 3000 (by kernel_rfl)
def KAwake85:CF:=⟨68,[.agg wAwake15],vF⟩
theorem kAwake85:KAwake85.Ok Try.prog:=CF.of2 noNG mixed (l:=[]) .nil 3000 (by kernel_rfl)
def KAwake86:CF:=⟨70,[lstV wAwake0 0 1 13,vI 10],.agg ⟨[vI 0,vI 0,vI 0,vI 10,vI 10,vI 0,vI 0,vI 0,vI 0,vI 0,vI 0,vI 0,vI 0]⟩⟩
theorem kAwake86:KAwake86.Ok Try.prog:=CF.of2 noNG mixed (l:=[]) .nil 3000 (by kernel_rfl)
def KAwake87:CF:=⟨116,[.agg ⟨[vJ 301,vJ 297,vI 0,vI 0,vI 1020,vI 1020]⟩],.agg ⟨[vI 1062,vI 1064]⟩⟩
theorem kAwake87:KAwake87.Ok Try.prog:=CF.of2 noNG mixed (l:=[]) .nil 3000 (by kernel_rfl)
def KAwake88:CF:=⟨112,[.agg ⟨[vJ 301,vJ 297,vI 0,vI 0,vI 1020,vI 1020]⟩,.func (.func 111) ⟨[]⟩ ⟨[]⟩,.agg ⟨[vI 0,vI 0]⟩],.agg ⟨[vI 0,vI 0,vI 0,vI 0,vI 0,vI 0]⟩⟩
theorem kAwake88:KAwake88.Ok Try.prog:=CF.of2 noNG mixed (l:=[]) .nil 3000 (by kernel_rfl)
def KAwake89:CF:=⟨99,[.agg wAwake4,.agg ⟨[vI 0,vI 0,vI 0,vI 10,vI 10,vI 0,vI 0,vI 0,vI 0,vI 0,vI 0,vI 0,vI 0]⟩,.agg wAwake15],.agg ⟨[vI 0,vI 0,vI 0,vI 0,vI 0,vI 0]⟩⟩
theorem kAwake89:KAwake89.Ok Try.prog:=CF.of2 noNG mixed (l:=[KAwake88,KAwake15,KAwake87]) (.cons kAwake88 (.cons kAwake15 (.cons kAwake87 .nil))) 3000 (by kernel_rfl)
def KAwake90:CF:=⟨69,[.agg wAwake4,.agg ⟨[vI 0,vI 0,vI 0,vI 10,vI 10,vI 0,vI 0,vI 0,vI 0,vI 0,vI 0,vI 0,vI 0]⟩,.agg wAwake15],.agg ⟨[vI 0,vI 0,vI 0,vI 0,vJ 97,vJ 97]⟩⟩
theorem kAwake90:KAwake90.Ok Try.prog:=CF.of2 noNG mixed (l:=[KAwake89,KAwake30]) (.cons kAwake89 (.cons kAwake30 .nil)) 3000 (by kernel_rfl)
def KAwake91:CF:=⟨119,[.agg wAwake15,.agg ⟨[vI 0,vI 0,vI 0,vI 0,vJ 97,vJ 97]⟩],.agg wAwake16⟩
theorem kAwake91:KAwake91.Ok Try.prog:=CF.of2 noNG mixed (l:=[]) .nil 3000 (by kernel_rfl)
def KAwake92:CF:=⟨68,[.agg wAwake16],vF⟩
theorem kAwake92:KAwake92.Ok Try.prog:=CF.of2 noNG mixed (l:=[]) .nil 3000 (by kernel_rfl)
def KAwake93:CF:=⟨70,[lstV wAwake0 0 1 13,vI 11],.agg ⟨[vI 0,vI 0,vI 0,vI 10,vI 10,vI 0,vI 0,vI 0,vI 0,vI 0,vI 0,vI 0,vI 0]⟩⟩
theorem kAwake93:KAwake93.Ok Try.prog:=CF.of2 noNG mixed (l:=[]) .nil 3000 (by kernel_rfl)
def KAwake94:CF:=⟨116,[.agg ⟨[vJ 301,vJ 297,vI 0,vI 0,vI 922,vI 922]⟩],.agg ⟨[vI 968,vI 971]⟩⟩
theorem kAwake94:KAwake94.Ok Try.prog:=CF.of2 noNG mixed (l:=[]) .nil 3000 (by kernel_rfl)
def KAwake95:CF:=⟨112,[.agg ⟨[vJ 301,vJ 297,vI 0,vI 0,vI 922,vI 922]⟩,.func (.func 111) ⟨[]⟩ ⟨[]⟩,.agg ⟨[vI 0,vI 0]⟩],.agg ⟨[vI 0,vI 0,vI 0,vI 0,vI 0,vI 0]⟩⟩
theorem kAwake95:KAwake95.Ok Try.prog:=CF.of2 noNG mixed (l:=[]) .nil 3000 (by kernel_rfl)
def KAwake96:CF:=⟨99,[.agg wAwake4,.agg ⟨[vI 0,vI 0,vI 0,vI 10,vI 10,vI 0,vI 0,vI 0,vI 0,vI 0,vI 0,vI 0,vI 0]⟩,.agg wAwake16],.agg ⟨[vI 0,vI 0,vI 0,vI 0,vI 0,vI 0]⟩⟩
theorem kAwake96:KAwake96.Ok Try.prog:=CF.of2 noNG mixed (l:=[KAwake15,KAwake94,KAwake95]) (.cons kAwake15 (.cons kAwake94 (.cons kAwake95 .nil))) 3000 (by kernel_rfl)
def KAwake97:CF:=⟨69,[.agg wAwake4,.agg ⟨[vI 0,vI 0,vI 0,vI 10,vI 10,vI 0,vI 0,vI 0,vI 0,vI 0,vI 0,vI 0,vI 0]⟩,.agg wAwake16],.agg ⟨[vI 0,vI 0,vI 0,vI 0,vJ 97,vJ 97]⟩⟩
theorem kAwake97:KAwake97.Ok Try.prog:=CF.of2 noNG mixed (l:=[KAwake96,KAwake30]) (.cons kAwake96 (.cons kAwake30 .nil)) 3000 (by kernel_rfl)
def KAwake98:CF:=⟨119,[.agg wAwake16,.agg ⟨[vI 0,vI 0,vI 0,vI 0,vJ 97,vJ 97]⟩],.agg wAwake17⟩
theorem kAwake98:KAwake98.Ok Try.prog:=CF.of2 noNG mixed (l:=[]) .nil 3000 (by kernel_rfl)
def KAwake99:CF:=⟨68,[.agg wAwake17],vF⟩
theorem kAwake99:KAwake99.Ok Try.prog:=CF.of2 noNG mixed (l:=[]) .nil 3000 (by kernel_rfl)
def KAwake100:CF:=⟨70,[lstV wAwake0 0 1 13,vI 12],.agg ⟨[vI 0,vI 0,vI 0,vI 10,vI 10,vI 0,vI 0,vI 0,vI 0,vI 0,vI 0,vI 0,vI 0]⟩⟩
theorem kAwake100:KAwake100.Ok Try.prog:=CF.of2 noNG mixed (l:=[]) .nil 3000 (by kernel_rfl)
def KAwake101:CF:=⟨116,[.agg ⟨[vJ 301,vJ 297,vI 0,vI 0,vI 824,vI 824]⟩],.agg ⟨[vI 876,vI 878]⟩⟩
theorem kAwake101:KAwake101.Ok Try.prog:=CF.of2 noNG mixed (l:=[]) .nil 3000 (by kernel_rfl)
def KAwake102:CF:=⟨112,[.agg ⟨[vJ 301,vJ 297,vI 0,vI 0,vI 824,vI 824]⟩,.func (.func 111) ⟨[]⟩ ⟨[]⟩,.agg ⟨[vI 0,vI 0]⟩],.agg ⟨[vI 0,vI 0,vI 0,vI 0,vI 0,vI 0]⟩⟩
theorem kAwake102:KAwake102.Ok Try.prog:=CF.of2 noNG mixed (l:=[]) .nil 3000 (by kernel_rfl)
def KAwake103:CF:=⟨99,[.agg wAwake4,.agg ⟨[vI 0,vI 0,vI 0,vI 10,vI 10,vI 0,vI 0,vI 0,vI 0,vI 0,vI 0,vI 0,vI 0]⟩,.agg wAwake17],.agg ⟨[vI 0,vI 0,vI 0,vI 0,vI 0,vI 0]⟩⟩
theorem kAwake103:KAwake103.Ok Try.prog:=CF.of2 noNG mixed (l:=[KAwake101,KAwake102,KAwake15]) (.cons kAwake101 (.cons kAwake102 (.cons kAwake15 .nil))) 3000 (by kernel_rfl)
def KAwake104:CF:=⟨69,[.agg wAwake4,.agg ⟨[vI 0,vI 0,vI 0,vI 10,vI 10,vI 0,vI 0,vI 0,vI 0,vI 0,vI 0,vI 0,vI 0]⟩,.agg wAwake17],.agg ⟨[vI 0,vI 0,vI 0,vI 0,vJ 97,vJ 97]⟩⟩
theorem kAwake104:KAwake104.Ok Try.prog:=CF.of2 noNG mixed (l:=[KAwake30,KAwake103]) (.cons kAwake30 (.cons kAwake103 .nil)) 3000 (by kernel_rfl)
def KAwake105:CF:=⟨119,[.agg wAwake17,.agg ⟨[vI 0,vI 0,vI 0,vI 0,vJ 97,vJ 97]⟩],.agg wAwake18⟩
theorem kAwake105:KAwake105.Ok Try.prog:=CF.of2 noNG mixed (l:=[]) .nil 3000 (by kernel_rfl)
def KAwake106:CF:=⟨68,[.agg wAwake18],vF⟩
theorem kAwake106:KAwake106.Ok Try.prog:=CF.of2 noNG mixed (l:=[]) .nil 3000 (by kernel_rfl)
def KAwake107:CF:=⟨70,[lstV wAwake0 0 1 13,vI 13],.agg ⟨[vI 0,vI 0,vI 0,vI 10,vI 10,vI 0,vI 0,vI 0,vI 0,vI 0,vI 0,vI 0,vI 0]⟩⟩
theorem kAwake107:KAwake107.Ok Try.prog:=CF.of2 noNG mixed (l:=[]) .nil 3000 (by kernel_rfl)
def KAwake108:CF:=⟨116,[.agg ⟨[vJ 301,vJ 297,vI 0,vI 0,vI 726,vI 726]⟩],.agg ⟨[vI 784,vI 787]⟩⟩
theorem kAwake108:KAwake108.Ok Try.prog:=CF.of2 noNG mixed (l:=[]) .nil 3000 (by kernel_rfl)
def KAwake109:CF:=⟨112,[.agg ⟨[vJ 301,vJ 297,vI 0,vI 0,vI 726,vI 726]⟩,.func (.func 111) ⟨[]⟩ ⟨[]⟩,.agg ⟨[vI 0,vI 0]⟩],.agg ⟨[vI 0,vI 0,vI 0,vI 0,vI 0,vI 0]⟩⟩
theorem kAwake109:KAwake109.Ok Try.prog:=CF.of2 noNG mixed (l:=[]) .nil 3000 (by kernel_rfl)
def KAwake110:CF:=⟨99,[.agg wAwake4,.agg ⟨[vI 0,vI 0,vI 0,vI 10,vI 10,vI 0,vI 0,vI 0,vI 0,vI 0,vI 0,vI 0,vI 0]⟩,.agg wAwake18],.agg ⟨[vI 0,vI 0,vI 0,vI 0,vI 0,vI 0]⟩⟩
theorem kAwake110:KAwake110.Ok Try.prog:=CF.of2 noNG mixed (l:=[KAwake108,KAwake109,KAwake15]) (.cons kAwake108 (.cons kAwake109 (.cons kAwake15 .nil))) 3000 (by kernel_rfl)
def KAwake111:CF:=⟨69,[.agg wAwake4,.agg ⟨[vI 0,vI 0,vI 0,vI 10,vI 10,vI 0,vI 0,vI 0,vI 0,vI 0,vI 0,vI 0,vI 0]⟩,.agg wAwake18],.agg ⟨[vI 0,vI 0,vI 0,vI 0,vJ 97,vJ 97]⟩⟩
theorem kAwake111:KAwake111.Ok Try.prog:=CF.of2 noNG mixed (l:=[KAwake110,KAwake30]) (.cons kAwake110 (.cons kAwake30 .nil)) 3000 (by kernel_rfl)
def KAwake112:CF:=⟨119,[.agg wAwake18,.agg ⟨[vI 0,vI 0,vI 0,vI 0,vJ 97,vJ 97]⟩],.agg wAwake19⟩
theorem kAwake112:KAwake112.Ok Try.prog:=CF.of2 noNG mixed (l:=[]) .nil 3000 (by kernel_rfl)
def KAwake113:CF:=⟨68,[.agg wAwake19],vF⟩
theorem kAwake113:KAwake113.Ok Try.prog:=CF.of2 noNG mixed (l:=[]) .nil 3000 (by kernel_rfl)
def KAwake114:CF:=⟨70,[lstV wAwake0 0 1 13,vI 14],.agg ⟨[vI 0,vI 0,vI 0,vI 10,vI 10,vI 0,vI 0,vI 0,vI 0,vI 0,vI 0,vI 0,vI 0]⟩⟩
theorem kAwake114:KAwake114.Ok Try.prog:=CF.of2 noNG mixed (l:=[]) .nil 3000 (by kernel_rfl)
def KAwake115:CF:=⟨116,[.agg ⟨[vJ 301,vJ 297,vI 0,vI 0,vI 628,vI 628]⟩],.agg ⟨[vI 695,vI 697]⟩⟩
theorem kAwake115:KAwake115.Ok Try.prog:=CF.of2 noNG mixed (l:=[]) .nil 3000 (by kernel_rfl)
def KAwake116:CF:=⟨112,[.agg ⟨[vJ 301,vJ 297,vI 0,vI 0,vI 628,vI 628]⟩,.func (.func 111) ⟨[]⟩ ⟨[]⟩,.agg ⟨[vI 0,vI 0]⟩],.agg ⟨[vI 0,vI 0,vI 0,vI 0,vI 0,vI 0]⟩⟩
theorem kAwake116:KAwake116.Ok Try.prog:=CF.of2 noNG mixed (l:=[]) .nil 3000 (by kernel_rfl)
def KAwake117:CF:=⟨99,[.agg wAwake4,.agg ⟨[vI 0,vI 0,vI 0,vI 10,vI 10,vI 0,vI 0,vI 0,vI 0,vI 0,vI 0,vI 0,vI 0]⟩,.agg wAwake19],.agg ⟨[vI 0,vI 0,vI 0,vI 0,vI 0,vI 0]⟩⟩
theorem kAwake117:KAwake117.Ok Try.prog:=CF.of2 noNG mixed (l:=[KAwake115,KAwake116,KAwake15]) (.cons kAwake115 (.cons kAwake116 (.cons kAwake15 .nil))) 3000 (by kernel_rfl)
def KAwake118:CF:=⟨69,[.agg wAwake4,.agg ⟨[vI 0,vI 0,vI 0,vI 10,vI 10,vI 0,vI 0,vI 0,vI 0,vI 0,vI 0,vI 0,vI 0]⟩,.agg wAwake19],.agg ⟨[vI 0,vI 0,vI 0,vI 0,vJ 97,vJ 97]⟩⟩
theorem kAwake118:KAwake118.Ok Try.prog:=CF.of2 noNG mixed (l:=[KAwake117,KAwake30]) (.cons kAwake117 (.cons kAwake30 .nil)) 3000 (by kernel_rfl)
def KAwake119:CF:=⟨119,[.agg wAwake19,.agg ⟨[vI 0,vI 0,vI 0,vI 0,vJ 97,vJ 97]⟩],.agg wAwake20⟩
theorem kAwake119:KAwake119.Ok Try.prog:=CF.of2 noNG mixed (l:=[]) .nil 3000 (by kernel_rfl)
def KAwake120:CF:=⟨68,[.agg wAwake20],vF⟩
theorem kAwake120:KAwake120.Ok Try.prog:=CF.of2 noNG mixed (l:=[]) .nil 3000 (by kernel_rfl)
def KAwake121:CF:=⟨70,[lstV wAwake0 0 1 13,vI 15],.agg ⟨[vI 0,vI 0,vI 0,vI 10,vI 10,vI 0,vI 0,vI 0,vI 0,vI 0,vI 0,vI 0,vI 0]⟩⟩
theorem kAwake121:KAwake121.Ok Try.prog:=CF.of2 noNG mixed (l:=[]) .nil 3000 (by kernel_rfl)
def KAwake122:CF:=⟨116,[.agg ⟨[vJ 301,vJ 297,vI 0,vI 0,vI 530,vI 530]⟩],.agg ⟨[vI 608,vI 611]⟩⟩
theorem kAwake122:KAwake122.Ok Try.prog:=CF.of2 noNG mixed (l:=[]) .nil 3000 (by kernel_rfl)
def KAwake123:CF:=⟨112,[.agg ⟨[vJ 301,vJ 297,vI 0,vI 0,vI 530,vI 530]⟩,.func (.func 111) ⟨[]⟩ ⟨[]⟩,.agg ⟨[vI 0,vI 0]⟩],.agg ⟨[vI 0,vI 0,vI 0,vI 0,vI 0,vI 0]⟩⟩
theorem kAwake123:KAwake123.Ok Try.prog:=CF.of2 noNG mixed (l:=[]) .nil 3000 (by kernel_rfl)
def KAwake124:CF:=⟨99,[.agg wAwake4,.agg ⟨[vI 0,vI 0,vI 0,vI 10,vI 10,vI 0,vI 0,vI 0,vI 0,vI 0,vI 0,vI 0,vI 0]⟩,.agg wAwake20],.agg ⟨[vI 0,vI 0,vI 0,vI 0,vI 0,vI 0]⟩⟩
theorem kAwake124:KAwake124.Ok Try.prog:=CF.of2 noNG mixed (l:=[KAwake122,KAwake123,KAwake15]) (.cons kAwake122 (.cons kAwake123 (.cons kAwake15 .nil))) 3000 (by kernel_rfl)
end
end Go.Proofs.Ytggaomgopenkfaa
