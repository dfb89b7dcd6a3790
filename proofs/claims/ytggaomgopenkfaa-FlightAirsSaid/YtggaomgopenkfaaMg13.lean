/- Part 13 of the texts below the claim. Conditions: none. -/
import Derived.Test.YtggaomgopenkfaaMg11
import Derived.Test.YtggaomgopenkfaaMg12
set_option linter.unusedVariables false
set_option linter.unusedSimpArgs false
namespace Go.Proofs.Ytggaomgopenkfaa
open Go.Gi Go.RowKit
noncomputable section
set_option maxRecDepth 100000
set_option maxHeartbeats 4000000
def KAwake80:CF:=⟨116,[.agg ⟨[vJ 301,vJ 297,vI 0,vI 0,vI 1118,vI 1118]⟩],.agg ⟨[vI 1157,vI 1159]⟩⟩
theorem kAwake80:KAwake80.Ok Try.prog:=CF.of2 noNG mixed (l:=[]) .nil 3000 (by kernel_rfl)
def KAwake81:CF:=⟨112,[.agg ⟨[vJ 301,vJ 297,vI 0,vI 0,vI 1118,vI 1118]⟩,.func (.func 111) ⟨[]⟩ ⟨[]⟩,.agg ⟨[vI 0,vI 0]⟩],.agg ⟨[vI 0,vI 0,vI 0,vI 0,vI 0,vI 0]⟩⟩
theorem kAwake81:KAwake81.Ok Try.prog:=CF.of2 noNG mixed (l:=[]) .nil 3000 (by kernel_rfl)
def KAwake82:CF:=⟨99,[.agg wAwake4,.agg ⟨[vI 0,vI 0,vI 0,vI 10,vI 10,vI 0,vI 0,vI 0,vI 0,vI 0,vI 0,vI 0,vI 0]⟩,.agg wAwake14],.agg ⟨[vI 0,vI 0,vI 0,vI 0,vI 0,vI 0]⟩⟩
theorem kAwake82:KAwake82.Ok Try.prog:=CF.of2 noNG mixed (l:=[KAwake80,KAwake81,KAwake15]) (.cons kAwake80 (.cons kAwake81 (.cons kAwake15 .nil))) 3000 (by kernel_rfl)
def KAwake83:CF:=⟨69,[.agg wAwake4,.agg ⟨[vI 0,vI 0,vI 0,vI 10,vI 10,vI 0,vI 0,vI 0,vI 0,vI 0,vI 0,vI 0,vI 0]⟩,.agg wAwake14],.agg ⟨[vI 0,vI 0,vI 0,vI 0,vJ 97,vJ 97]⟩⟩
theorem kAwake83:KAwake83.Ok Try.prog:=CF.of2 noNG mixed (l:=[KAwake82,KAwake30]) (.cons kAwake82 (.cons kAwake30 .nil)) 3000 (by kernel_rfl)
def KAwake84:CF:=⟨119,[.agg wAwake14,.agg ⟨[vI 0,vI 0,vI 0,vI 0,vJ 97,vJ 97]⟩],.agg wAwake15⟩
theorem kAwake84:KAwake84.Ok Try.prog:=CF.of2 noNG mixed (l:=[]) .nil 3000 (by kernel_rfl)
def KAwake85:CF:=⟨68,[.agg wAwake15],vF⟩
theorem kAwake85:KAwake85.Ok Try.prog:=CF.of2 noNG mixed (l:=[]) .nil 3000 (by kernel_rfl)
def KAwake86:CF:=⟨70,[lstV wAwake0 0 1 13,vI 10],.agg ⟨[vI 0,vI 0,vI 0,vI 10,vI 10,vI 0,vI 0,vI 0,vI 0,vI 0,vI 0,vI 0,vI 0]⟩⟩
theorem kAwake86:KAwake86.Ok Try.prog:=CF.of2 noNG mixed (l:=[]) .nil 3000 (by kernel_rfl)
def KAwake87:CF:=⟨116,[.agg ⟨[vJ 301,vJ 297,vI 0,vI 0,vI 1020,vI 1020]⟩],.agg ⟨[vI 1062,vI 1064]⟩⟩
theorem kAwake87:KAwake87.Ok Try.prog:=CF.of2 noNG mixed (l:=[]) .nil 3000 (by kernel_rfl)
def KAwake88:CF:=⟨112,[.agg ⟨[vJ 301,vJ 297,vI 0,vI 0,vI 1020,vI 1020]⟩,.func (.func 111) ⟨[]⟩ ⟨[]⟩,.agg ⟨[vI 0,vI 0]⟩],.agg ⟨[vI 0,vI 0,vI 0,vI 0,vI 0,vI 0]⟩⟩
theorem kAwake88:KAwake88.Ok Try.prog:=CF.of2 noNG mixed (l:=[]) .nil 3000 (by kernel_rfl)
def KAwake89:CF:=⟨99,[.agg wAwake4,.agg ⟨[vI 0,vI 0,vI 0,vI 10,vI 10,vI 0,vI 0,vI 0,vI 0,vI 0,vI 0,vI 0,vI 0]⟩,.agg wAwake15],.agg ⟨[vI 0,vI 0,vI 0,vI 0,vI 0,vI 0]⟩⟩
theorem kAwake89:KAwake89.Ok Try.prog:=CF.of2 noNG mixed (l:=[KAwake88,KAwake15,KAwake87]) (.cons kAwake88 (.cons kAwake15 (.cons kAwake87 .nil))) 3000 (by kernel_rfl)
def KAwake90:CF:=⟨69,[.agg wAwake4,.agg ⟨[vI 0,vI 0,vI 0,vI 10,vI 10,vI 0,vI 0,vI 0,vI 0,vI 0,vI 0,vI 0,vI 0]⟩,.agg wAwake15],.agg ⟨[vI 0,vI 0,vI 0,vI 0,vJ 97,vJ 97]⟩⟩
theorem kAwake90:KAwake90.Ok Try.prog:=CF.of2 noNG mixed (l:=[KAwake89,KAwake30]) (.cons kAwake89 (.cons kAwake30 .nil)) 3000 (by kernel_rfl)
def KAwake91:CF:=⟨119,[.agg wAwake15,.agg ⟨[vI 0,vI 0,vI 0,vI 0,vJ 97,vJ 97]⟩],.agg wAwake16⟩
theorem kAwake91:KAwake91.Ok Try.prog:=CF.of2 noNG mixed (l:=[]) .nil 3000 (by kernel_rfl)
def KAwake92:CF:=⟨68,[.agg wAwake16],vF⟩
theorem kAwake92:KAwake92.Ok Try.prog:=CF.of2 noNG mixed (l:=[]) .nil 3000 (by kernel_rfl)
def KAwake93:CF:=⟨70,[lstV wAwake0 0 1 13,vI 11],.agg ⟨[vI 0,vI 0,vI 0,vI 10,vI 10,vI 0,vI 0,vI 0,vI 0,vI 0,vI 0,vI 0,vI 0]⟩⟩
theorem kAwake93:KAwake93.Ok Try.prog:=CF.of2 noNG mixed (l:=[]) .nil 3000 (by kernel_rfl)
def KAwake94:CF:=⟨116,[.agg ⟨[vJ 301,vJ 297,vI 0,vI 0,vI 922,vI 922]⟩],.agg ⟨[vI 968,vI 971]⟩⟩
theorem kAwake94:KAwake94.Ok Try.prog:=CF.of2 noNG mixed (l:=[]) .nil 3000 (by kernel_rfl)
def KAwake95:CF:=⟨112,[.agg ⟨[vJ 301,vJ 297,vI 0,vI 0,vI 922,vI 922]⟩,.func (.func 111) ⟨[]⟩ ⟨[]⟩,.agg ⟨[vI 0,vI 0]⟩],.agg ⟨[vI 0,vI 0,vI 0,vI 0,vI 0,vI 0]⟩⟩
theorem kAwake95:KAwake95.Ok Try.prog:=CF.of2 noNG mixed (l:=[]) .nil 3000 (by kernel_rfl)
def KAwake96:CF:=⟨99,[.agg wAwake4,.agg ⟨[vI 0,vI 0,vI 0,vI 10,vI 10,vI 0,vI 0,vI 0,vI 0,vI 0,vI 0,vI 0,vI 0]⟩,.agg wAwake16],.agg ⟨[vI 0,vI 0,vI 0,vI 0,vI 0,vI 0]⟩⟩
theorem kAwake96:KAwake96.Ok Try.prog:=CF.of2 noNG mixed (l:=[KAwake15,KAwake94,KAwake95]) (.cons kAwake15 (.cons kAwake94 (.cons kAwake95 .nil))) 3000 (by kernel_rfl)
def KAwake97:CF:=⟨69,[.agg wAwake4,.agg ⟨[vI 0,vI 0,vI 0,vI 10,vI 10,vI 0,vI 0,vI 0,vI 0,vI 0,vI 0,vI 0,vI 0]⟩,.agg wAwake16],.agg ⟨[vI 0,vI 0,vI 0,vI 0,vJ 97,vJ 97]⟩⟩
theorem kAwake97:KAwake97.Ok Try.prog:=CF.of2 noNG mixed (l:=[KAwake96,KAwake30]) (.cons kAwake96 (.cons kAwake30 .nil)) 3000 (by kernel_rfl)
def KAwake98:CF:=⟨119,[.agg wAwake16,.agg ⟨[vI 0,vI 0,vI 0,vI 0,vJ 97,vJ 97]⟩],.agg wAwake17⟩
theorem kAwake98:KAwake98.Ok Try.prog:=CF.of2 noNG mixed (l:=[]) .nil 3000 (by kernel_rfl)
def KAwake99:CF:=⟨68,[.agg wAwake17],vF⟩
theorem kAwake99:KAwake99.Ok Try.prog:=CF.of2 noNG mixed (l:=[]) .nil 3000 (by kernel_rfl)
def KAwake100:CF:=⟨70,[lstV wAwake0 0 1 13,vI 12],.agg ⟨[vI 0,vI 0,vI 0,vI 10,vI 10,vI 0,vI 0,vI 0,vI 0,vI 0,vI 0,vI 0,vI 0]⟩⟩
theorem kAwake100:KAwake100.Ok Try.prog:=CF.of2 noNG mixed (l:=[]) .nil 3000 (by kernel_rfl)
def KAwake101:CF:=⟨116,[.agg ⟨[vJ 301,vJ 297,vI 0,vI 0,vI 824,vI 824]⟩],.agg ⟨[vI 876,vI 878]⟩⟩
theorem kAwake101:KAwake101.Ok Try.prog:=CF.of2 noNG mixed (l:=[]) .nil 3000 (by kernel_rfl)
def KAwake102:CF:=⟨112,[.agg ⟨[vJ 301,vJ 297,vI 0,vI 0,vI 824,vI 824]⟩,.func (.func 111) ⟨[]⟩ ⟨[]⟩,.agg ⟨[vI 0,vI 0]⟩],.agg ⟨[vI 0,vI 0,vI 0,vI 0,vI 0,vI 0]⟩⟩
theorem kAwake102:KAwake102.Ok Try.prog:=CF.of2 noNG mixed (l:=[]) .nil 3000 (by kernel_rfl)
def KAwake103:CF:=⟨99,[.agg wAwake4,.agg ⟨[vI 0,vI 0,vI 0,vI 10,vI 10,vI 0,vI 0,vI 0,vI 0,vI 0,vI 0,vI 0,vI 0]⟩,.agg wAwake17],.agg ⟨[vI 0,vI 0,vI 0,vI 0,vI 0,vI 0]⟩⟩
theorem kAwake103:KAwake103.Ok Try.prog:=CF.of2 noNG mixed (l:=[KAwake101,KAwake102,KAwake15]) (.cons kAwake101 (.cons kAwake102 (.cons kAwake15 .nil))) 3000 (by kernel_rfl)
def KAwake104:CF:=⟨69,[.agg wAwake4,.agg ⟨[vI 0,vI 0,vI 0,vI 10,vI 10,vI 0,vI 0,vI 0,vI 0,vI 0,vI 0,vI 0,vI 0]⟩,.agg wAwake17],.agg ⟨[vI 0,vI 0,vI 0,vI 0,vJ 97,vJ 97]⟩⟩
theorem kAwake104:KAwake104.Ok Try.prog:=CF.of2 noNG mixed (l:=[KAwake30,KAwake103]) (.cons kAwake30 (.cons kAwake103 .nil)) 3000 (by kernel_rfl)
def KAwake105:CF:=⟨119,[.agg wAwake17,.agg ⟨[vI 0,vI 0,vI 0,vI 0,vJ 97,vJ 97]⟩],.agg wAwake18⟩
theorem kAwake105:KAwake105.Ok Try.prog:=CF.of2 noNG mixed (l:=[]) .nil 3000 (by kernel_rfl)
def KAwake106:CF:=⟨68,[.agg wAwake18],vF⟩
theorem kAwake106:KAwake106.Ok Try.prog:=CF.of2 noNG mixed (l:=[]) .nil 3000 (by kernel_rfl)
def KAwake107:CF:=⟨70,[lstV wAwake0 0 1 13,vI 13],.agg ⟨[vI 0,vI 0,vI 0,vI 10,vI 10,vI 0,vI 0,vI 0,vI 0,vI 0,vI 0,vI 0,vI 0]⟩⟩
theorem kAwake107:KAwake107.Ok Try.prog:=CF.of2 noNG mixed (l:=[]) .nil 3000 (by kernel_rfl)
def KAwake108:CF:=⟨116,[.agg ⟨[vJ 301,vJ 297,vI 0,vI 0,vI 726,vI 726]⟩],.agg ⟨[vI 784,vI 787]⟩⟩
theorem kAwake108:KAwake108.Ok Try.prog:=CF.of2 noNG mixed (l:=[]) .nil 3000 (by kernel_rfl)
def KAwake109:CF:=⟨112,[.agg ⟨[vJ 301,vJ 297,vI 0,vI 0,vI 726,vI 726]⟩,.func (.func 111) ⟨[]⟩ ⟨[]⟩,.agg ⟨[vI 0,vI 0]⟩],.agg ⟨[vI 0,vI 0,vI 0,vI 0,vI 0,vI 0]⟩⟩
theorem kAwake109:KAwake109.Ok Try.prog:=CF.of2 noNG mixed (l:=[]) .nil 3000 (by kernel_rfl)
def KAwake110:CF:=⟨99,[.agg wAwake4,.agg ⟨[vI 0,vI 0,vI 0,vI 10,vI 10,vI 0,vI 0,vI 0,vI 0,vI 0,vI 0,vI 0,vI 0]⟩,.agg wAwake18],.agg ⟨[vI 0,vI 0,vI 0,vI 0,vI 0,vI 0]⟩⟩
theorem kAwake110:KAwake110.Ok Try.prog:=CF.of2 noNG mixed (l:=[KAwake108,KAwake109,KAwake15]) (.cons kAwake108 (.cons kAwake109 (.cons kAwake15 .nil))) 3000 (by kernel_rfl)
def KAwake111:CF:=⟨69,[.agg wAwake4,.agg ⟨[vI 0,vI 0,vI 0,vI 10,vI 10,vI 0,vI 0,vI 0,vI 0,vI 0,vI 0,vI 0,vI 0]⟩,.agg wAwake18],.agg ⟨[vI 0,vI 0,vI 0,vI 0,vJ 97,vJ 97]⟩⟩
theorem kAwake111:KAwake111.Ok Try.prog:=CF.of2 noNG mixed (l:=[KAwake110,KAwake30]) (.cons kAwake110 (.cons kAwake30 .nil)) 3000 (by kernel_rfl)
def KAwake112:CF:=⟨119,[.agg wAwake18,.agg ⟨[vI 0,vI 0,vI 0,vI 0,vJ 97,vJ 97]⟩],.agg wAwake19⟩
theorem kAwake112:KAwake112.Ok Try.prog:=CF.of2 noNG mixed (l:=[]) .nil 3000 (by kernel_rfl)
def KAwake113:CF:=⟨68,[.agg wAwake19],vF⟩
theorem kAwake113:KAwake113.Ok Try.prog:=CF.of2 noNG mixed (l:=[]) .nil 3000 (by kernel_rfl)
def KAwake114:CF:=⟨70,[lstV wAwake0 0 1 13,vI 14],.agg ⟨[vI 0,vI 0,vI 0,vI 10,vI 10,vI 0,vI 0,vI 0,vI 0,vI 0,vI 0,vI 0,vI 0]⟩⟩
theorem kAwake114:KAwake114.Ok Try.prog:=CF.of2 noNG mixed (l:=[]) .nil 3000 (by kernel_rfl)
def KAwake115:CF:=⟨116,[.agg ⟨[vJ 301,vJ 297,vI 0,vI 0,vI 628,vI 628]⟩],.agg ⟨[vI 695,vI 697]⟩⟩
theorem kAwake115:KAwake115.Ok Try.prog:=CF.of2 noNG mixed (l:=[]) .nil 3000 (by kernel_rfl)
def KAwake116:CF:=⟨112,[.agg ⟨[vJ 301,vJ 297,vI 0,vI 0,vI 628,vI 628]⟩,.func (.func 111) ⟨[]⟩ ⟨[]⟩,.agg ⟨[vI 0,vI 0]⟩],.agg ⟨[vI 0,vI 0,vI 0,vI 0,vI 0,vI 0]⟩⟩
theorem kAwake116:KAwake116.Ok Try.prog:=CF.of2 noNG mixed (l:=[]) .nil 3000 (by kernel_rfl)
def KAwake117:CF:=⟨99,[.agg wAwake4,.agg ⟨[vI 0,vI 0,vI 0,vI 10,vI 10,vI 0,vI 0,vI 0,vI 0,vI 0,vI 0,vI 0,vI 0]⟩,.agg wAwake19],.agg ⟨[vI 0,vI 0,vI 0,vI 0,vI 0,vI 0]⟩⟩
theorem kAwake117:KAwake117.Ok Try.prog:=CF.of2 noNG mixed (l:=[KAwake115,KAwake116,KAwake15]) (.cons kAwake115 (.cons kAwake116 (.cons kAwake15 .nil))) 3000 (by kernel_rfl)
def KAwake118:CF:=⟨69,[.agg wAwake4,.agg ⟨[vI 0,vI 0,vI 0,vI 10,vI 10,vI 0,vI 0,vI 0,vI 0,vI 0,vI 0,vI 0,vI 0]⟩,.agg wAwake19],.agg ⟨[vI 0,vI 0,vI 0,vI 0,vJ 97,vJ 97]⟩⟩
theorem kAwake118:KAwake118.Ok Try.prog:=CF.of2 noNG mixed (l:=[KAwake117,KAwake30]) (.cons kAwake117 (.cons kAwake30 .nil)) 3000 (by kernel_rfl)
def KAwake119:CF:=⟨119,[.agg wAwake19,.agg ⟨[vI 0,vI 0,vI 0,vI 0,vJ 97,vJ 97]⟩],.agg wAwake20⟩
theorem kAwake119:KAwake119.Ok Try.prog:=CF.of2 noNG mixed (l:=[]) .nil 3000 (by kernel_rfl)
def KAwake120:CF:=⟨68,[.agg wAwake20],vF⟩
theorem kAwake120:KAwake120.Ok Try.prog:=CF.of2 noNG mixed (l:=[]) .nil 3000 (by kernel_rfl)
def KAwake121:CF:=⟨70,[lstV wAwake0 0 1 13,vI 15],.agg ⟨[vI 0,vI 0,vI 0,vI 10,vI 10,vI 0,vI 0,vI 0,vI 0,vI 0,vI 0,vI 0,vI 0]⟩⟩
theorem kAwake121:KAwake121.Ok Try.prog:=CF.of2 noNG mixed (l:=[]) .nil 3000 (by kernel_rfl)
def KAwake122:CF:=⟨116,[.agg ⟨[vJ 301,vJ 297,vI 0,vI 0,vI 530,vI 530]⟩],.agg ⟨[vI 608,vI 611]⟩⟩
theorem kAwake122:KAwake122.Ok Try.prog:=CF.of2 noNG mixed (l:=[]) .nil 3000 (by kernel_rfl)
def KAwake123:CF:=⟨112,[.agg ⟨[vJ 301,vJ 297,vI 0,vI 0,vI 530,vI 530]⟩,.func (.func 111) ⟨[]⟩ ⟨[]⟩,.agg ⟨[vI 0,vI 0]⟩],.agg ⟨[vI 0,vI 0,vI 0,vI 0,vI 0,vI 0]⟩⟩
theorem kAwake123:KAwake123.Ok Try.prog:=CF.of2 noNG mixed (l:=[]) .nil 3000 (by kernel_rfl)
def KAwake124:CF:=⟨99,[.agg wAwake4,.agg ⟨[vI 0,vI 0,vI 0,vI 10,vI 10,vI 0,vI 0,vI 0,vI 0,vI 0,vI 0,vI 0,vI 0]⟩,.agg wAwake20],.agg ⟨[vI 0,vI 0,vI 0,vI 0,vI 0,vI 0]⟩⟩
theorem kAwake124:KAwake124.Ok Try.prog:=CF.of2 noNG mixed (l:=[KAwake122,KAwake123,KAwake15]) (.cons kAwake122 (.cons kAwake123 (.cons kAwake15 .nil))) 3000 (by kernel_rfl)
def KAwake125:CF:=⟨69,[.agg wAwake4,.agg ⟨[vI 0,vI 0,vI 0,vI 10,vI 10,vI 0,vI 0,vI 0,vI 0,vI 0,vI 0,vI 0,vI 0]⟩,.agg wAwake20],.agg ⟨[vI 0,vI 0,vI 0,vI 0,vJ 97,vJ 97]⟩⟩
theorem kAwake125:KAwake125.Ok Try.prog:=CF.of2 noNG mixed (l:=[KAwake124,KAwake30]) (.cons kAwake124 (.cons kAwake30 .nil)) 3000 (by kernel_rfl)
def KAwake126:CF:=⟨119,[.agg wAwake20,.agg ⟨[vI 0,vI 0,vI 0,vI 0,vJ 97,vJ 97]⟩],.agg wAwake21⟩
theorem kAwake126:KAwake126.Ok Try.prog:=CF.of2 noNG mixed (l:=[]) .nil 3000 (by kernel_rfl)
def KAwake127:CF:=⟨68,[.agg wAwake21],vF⟩
theorem kAwake127:KAwake127.Ok Try.prog:=CF.of2 noNG mixed (l:=[]) .nil 3000 (by kernel_rfl)
def KAwake128:CF:=⟨70,[lstV wAwake0 0 1 13,vI 16],.agg ⟨[vI 0,vI 0,vI 0,vI 10,vI 10,vI 0,vI 0,vI 0,vI 0,vI 0,vI 0,vI 0,vI 0]⟩⟩
theorem kAwake128:KAwake128.Ok Try.prog:=CF.of2 noNG mixed (l:=[]) .nil 3000 (by kernel_rfl)
def KAwake129:CF:=⟨116,[.agg ⟨[vJ 301,vJ 297,vI 0,vI 0,vI 432,vI 432]⟩],.agg ⟨[vI 524,vI 528]⟩⟩
theorem kAwake129:KAwake129.Ok Try.prog:=CF.of2 noNG mixed (l:=[]) .nil 3000 (by kernel_rfl)
def KAwake130:CF:=⟨112,[.agg ⟨[vJ 301,vJ 297,vI 0,vI 0,vI 432,vI 432]⟩,.func (.func 111) ⟨[]⟩ ⟨[]⟩,.agg ⟨[vI 0,vI 0]⟩],.agg ⟨[vI 0,vI 0,vI 0,vI 0,vI 0,vI 0]⟩⟩
theorem kAwake130:KAwake130.Ok Try.prog:=CF.of2 noNG mixed (l:=[]) .nil 3000 (by kernel_rfl)
def KAwake131:CF:=⟨99,[.agg wAwake4,.agg ⟨[vI 0,vI 0,vI 0,vI 10,vI 10,vI 0,vI 0,vI 0,vI 0,vI 0,vI 0,vI 0,vI 0]⟩,.agg wAwake21],.agg ⟨[vI 0,vI 0,vI 0,vI 0,vI 0,vI 0]⟩⟩
theorem kAwake131:KAwake131.Ok Try.prog:=CF.of2 noNG mixed (l:=[KAwake129,KAwake130,KAwake15]) (.cons kAwake129 (.cons kAwake130 (.cons kAwake15 .nil))) 3000 (by kernel_rfl)
def KAwake132:CF:=⟨69,[.agg wAwake4,.agg ⟨[vI 0,vI 0,vI 0,vI 10,vI 10,vI 0,vI 0,vI 0,vI 0,vI 0,vI 0,vI 0,vI 0]⟩,.agg wAwake21],.agg ⟨[vI 0,vI 0,vI 0,vI 0,vJ 97,vJ 97]⟩⟩
theorem kAwake132:KAwake132.Ok Try.prog:=CF.of2 noNG mixed (l:=[KAwake131,KAwake30]) (.cons kAwake131 (.cons kAwake30 .nil)) 3000 (by kernel_rfl)
def KAwake133:CF:=⟨119,[.agg wAwake21,.agg ⟨[vI 0,vI 0,vI 0,vI 0,vJ 97,vJ 97]⟩],.agg wAwake22⟩
theorem kAwake133:KAwake133.Ok Try.prog:=CF.of2 noNG mixed (l:=[]) .nil 3000 (by kernel_rfl)
def KAwake134:CF:=⟨68,[.agg wAwake22],vF⟩
theorem kAwake134:KAwake134.Ok Try.prog:=CF.of2 noNG mixed (l:=[]) .nil 3000 (by kernel_rfl)
def KAwake135:CF:=⟨70,[lstV wAwake0 0 1 13,vI 17],.agg ⟨[vI 0,vI 0,vI 0,vI 10,vI 10,vI 0,vI 0,vI 0,vI 0,vI 0,vI 0,vI 0,vI 0]⟩⟩
theorem kAwake135:KAwake135.Ok Try.prog:=CF.of2 noNG mixed (l:=[]) .nil 3000 (by kernel_rfl)
def KAwake136:CF:=⟨116,[.agg ⟨[vJ 301,vJ 297,vI 0,vI 0,vI 334,vI 334]⟩],.agg ⟨[vI 447,vI 451]⟩⟩
theorem kAwake136:KAwake136.Ok Try.prog:=CF.of2 noNG mixed (l:=[]) .nil 3000 (by kernel_rfl)
def KAwake137:CF:=⟨112,[.agg ⟨[vJ 301,vJ 297,vI 0,vI 0,vI 334,vI 334]⟩,.func (.func 111) ⟨[]⟩ ⟨[]⟩,.agg ⟨[vI 0,vI 0]⟩],.agg ⟨[vI 0,vI 0,vI 0,vI 0,vI 0,vI 0]⟩⟩
theorem kAwake137:KAwake137.Ok Try.prog:=CF.of2 noNG mixed (l:=[]) .nil 3000 (by kernel_rfl)
def KAwake138:CF:=⟨99,[.agg wAwake4,.agg ⟨[vI 0,vI 0,vI 0,vI 10,vI 10,vI 0,vI 0,vI 0,vI 0,vI 0,vI 0,vI 0,vI 0]⟩,.agg wAwake22],.agg ⟨[vI 0,vI 0,vI 0,vI 0,vI 0,vI 0]⟩⟩
theorem kAwake138:KAwake138.Ok Try.prog:=CF.of2 noNG mixed (l:=[KAwake136,KAwake137,KAwake15]) (.cons kAwake136 (.cons kAwake137 (.cons kAwake15 .nil))) 3000 (by kernel_rfl)
def KAwake139:CF:=⟨69,[.agg wAwake4,.agg ⟨[vI 0,vI 0,vI 0,vI 10,vI 10,vI 0,vI 0,vI 0,vI 0,vI 0,vI 0,vI 0,vI 0]⟩,.agg wAwake22],.agg ⟨[vI 0,vI 0,vI 0,vI 0,vJ 97,vJ 97]⟩⟩
theorem kAwake139:KAwake139.Ok Try.prog:=CF.of2 noNG mixed (l:=[KAwake138,KAwake30]) (.cons kAwake138 (.cons kAwake30 .nil)) 3000 (by kernel_rfl)
end
end Go.Proofs.Ytggaomgopenkfaa
