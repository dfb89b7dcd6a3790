/- Part 12 of the texts below the claim. Conditions: none. -/
import Derived.Test.YtggaomgopenkfaaMg11
set_option linter.unusedVariables false
set_option linter.unusedSimpArgs false
namespace Go.Proofs.Ytggaomgopenkfaa
open Go.Gi Go.RowKit
noncomputable section
set_option maxRecDepth 100000
set_option maxHeartbeats 4000000
def KAwake19:CF:=⟨68,[.agg wAwake6],vF⟩
theorem kAwake19:KAwake19.Ok Try.prog:=CF.of2 noNG mixed (l:=[]) .nil 3000 (by kernel_rfl)
def KAwake20:CF:=⟨70,[lstV wAwake0 0 1 13,vI 1],.agg wAwake0⟩
theorem kAwake20:KAwake20.Ok Try.prog:=CF.of2 noNG mixed (l:=[]) .nil 3000 (by kernel_rfl)
def KAwake21:CF:=⟨116,[.agg ⟨[vJ 300,vJ 298,vI 0,vI 0,vI 902,vI 902]⟩],.agg ⟨[vI 950,vI 951]⟩⟩
theorem kAwake21:KAwake21.Ok Try.prog:=CF.of2 noNG mixed (l:=[]) .nil 3000 (by kernel_rfl)
def KAwake22:CF:=⟨112,[.agg ⟨[vJ 300,vJ 298,vI 0,vI 0,vI 902,vI 902]⟩,.func (.func 111) ⟨[]⟩ ⟨[]⟩,.agg ⟨[vI 0,vI 0]⟩],.agg ⟨[vI 0,vI 0,vI 0,vI 0,vI 0,vI 0]⟩⟩
theorem kAwake22:KAwake22.Ok Try.prog:=CF.of2 noNG mixed (l:=[]) .nil 3000 (by kernel_rfl)
def KAwake23:CF:=⟨99,[.agg wAwake4,.agg wAwake0,.agg wAwake6],.agg ⟨[vI 0,vI 0,vI 0,vI 0,vI 0,vI 0]⟩⟩
theorem kAwake23:KAwake23.Ok Try.prog:=CF.of2 noNG mixed (l:=[KAwake21,KAwake22,KAwake15]) (.cons kAwake21 (.cons kAwake22 (.cons kAwake15 .nil))) 3000 (by kernel_rfl)
def KAwake24:CF:=⟨69,[.agg wAwake4,.agg wAwake0,.agg wAwake6],.agg ⟨[vJ 0,vI 1,vI 0,vI 0,vI 902,vI 902]⟩⟩
theorem kAwake24:KAwake24.Ok Try.prog:=CF.of2 noNG mixed (l:=[KAwake12,KAwake23]) (.cons kAwake12 (.cons kAwake23 .nil)) 3000 (by kernel_rfl)
def KAwake25:CF:=⟨119,[.agg wAwake6,.agg ⟨[vJ 0,vI 1,vI 0,vI 0,vI 902,vI 902]⟩],.agg wAwake7⟩
theorem kAwake25:KAwake25.Ok Try.prog:=CF.of2 noNG mixed (l:=[]) .nil 3000 (by kernel_rfl)
def KAwake26:CF:=⟨68,[.agg wAwake7],vF⟩
theorem kAwake26:KAwake26.Ok Try.prog:=CF.of2 noNG mixed (l:=[]) .nil 3000 (by kernel_rfl)
def KAwake27:CF:=⟨70,[lstV wAwake0 0 1 13,vI 2],.agg ⟨[vI 0,vI 0,vI 0,vI 10,vI 10,vI 0,vI 0,vI 0,vI 0,vI 0,vI 0,vI 0,vI 0]⟩⟩
theorem kAwake27:KAwake27.Ok Try.prog:=CF.of2 noNG mixed (l:=[]) .nil 3000 (by kernel_rfl)
def KAwake28:CF:=⟨112,[.agg ⟨[vI 0,vI 0,vI 0,vI 0,vI 10000,vI 10000]⟩,.func (.func 111) ⟨[]⟩ ⟨[]⟩,.agg ⟨[vI 0,vI 0]⟩],.agg ⟨[vI 0,vI 0,vI 0,vI 0,vI 0,vI 0]⟩⟩
theorem kAwake28:KAwake28.Ok Try.prog:=CF.of2 noNG mixed (l:=[]) .nil 3000 (by kernel_rfl)
def KAwake29:CF:=⟨112,[.agg ⟨[vI 0,vI 0,vI 0,vI 0,vI 0,vI 0]⟩,.func (.func 113) ⟨[]⟩ ⟨[]⟩,.agg ⟨[vI 100000,vI 100000]⟩],.agg ⟨[vI 0,vI 0,vI 0,vI 0,vI 0,vI 0]⟩⟩
theorem kAwake29:KAwake29.Ok Try.prog:=CF.of2 noNG mixed (l:=[]) .nil 3000 (by kernel_rfl)
def KAwake30:CF:=⟨97,[.agg wAwake4,.agg ⟨[vI 0,vI 0,vI 0,vI 10,vI 10,vI 0,vI 0,vI 0,vI 0,vI 0,vI 0,vI 0,vI 0]⟩],.agg ⟨[vI 0,vI 0,vI 0,vI 0,vI 0,vI 0]⟩⟩
theorem kAwake30:KAwake30.Ok Try.prog:=CF.of2 noNG mixed (l:=[KAwake28,KAwake29]) (.cons kAwake28 (.cons kAwake29 .nil)) 3000 (by kernel_rfl)
def KAwake31:CF:=⟨116,[.agg ⟨[vJ 301,vJ 297,vI 0,vI 0,vI 1804,vI 1804]⟩],.agg ⟨[vI 1828,vI 1830]⟩⟩
theorem kAwake31:KAwake31.Ok Try.prog:=CF.of2 noNG mixed (l:=[]) .nil 3000 (by kernel_rfl)
def KAwake32:CF:=⟨112,[.agg ⟨[vJ 301,vJ 297,vI 0,vI 0,vI 1804,vI 1804]⟩,.func (.func 111) ⟨[]⟩ ⟨[]⟩,.agg ⟨[vI 0,vI 0]⟩],.agg ⟨[vI 0,vI 0,vI 0,vI 0,vI 0,vI 0]⟩⟩
theorem kAwake32:KAwake32.Ok Try.prog:=CF.of2 noNG mixed (l:=[]) .nil 3000 (by kernel_rfl)
def KAwake33:CF:=⟨99,[.agg wAwake4,.agg ⟨[vI 0,vI 0,vI 0,vI 10,vI 10,vI 0,vI 0,vI 0,vI 0,vI 0,vI 0,vI 0,vI 0]⟩,.agg wAwake7],.agg ⟨[vI 0,vI 0,vI 0,vI 0,vI 0,vI 0]⟩⟩
theorem kAwake33:KAwake33.Ok Try.prog:=CF.of2 noNG mixed (l:=[KAwake32,KAwake15,KAwake31]) (.cons kAwake32 (.cons kAwake15 (.cons kAwake31 .nil))) 3000 (by kernel_rfl)
def KAwake34:CF:=⟨69,[.agg wAwake4,.agg ⟨[vI 0,vI 0,vI 0,vI 10,vI 10,vI 0,vI 0,vI 0,vI 0,vI 0,vI 0,vI 0,vI 0]⟩,.agg wAwake7],.agg ⟨[vI 0,vI 0,vI 0,vI 0,vJ 97,vJ 97]⟩⟩
theorem kAwake34:KAwake34.Ok Try.prog:=CF.of2 noNG mixed (l:=[KAwake33,KAwake30]) (.cons kAwake33 (.cons kAwake30 .nil)) 3000 (by kernel_rfl)
def KAwake35:CF:=⟨119,[.agg wAwake7,.agg ⟨[vI 0,vI 0,vI 0,vI 0,vJ 97,vJ 97]⟩],.agg wAwake8⟩
theorem kAwake35:KAwake35.Ok Try.prog:=CF.of2 noNG mixed (l:=[]) .nil 3000 (by kernel_rfl)
def KAwake36:CF:=⟨68,[.agg wAwake8],vF⟩
theorem kAwake36:KAwake36.Ok Try.prog:=CF.of2 noNG mixed (l:=[]) .nil 3000 (by kernel_rfl)
def KAwake37:CF:=⟨70,[lstV wAwake0 0 1 13,vI 3],.agg ⟨[vI 0,vI 0,vI 0,vI 10,vI 10,vI 0,vI 0,vI 0,vI 0,vI 0,vI 0,vI 0,vI 0]⟩⟩
theorem kAwake37:KAwake37.Ok Try.prog:=CF.of2 noNG mixed (l:=[]) .nil 3000 (by kernel_rfl)
def KAwake38:CF:=⟨116,[.agg ⟨[vJ 301,vJ 297,vI 0,vI 0,vI 1706,vI 1706]⟩],.agg ⟨[vI 1731,vI 1733]⟩⟩
theorem kAwake38:KAwake38.Ok Try.prog:=CF.of2 noNG mixed (l:=[]) .nil 3000 (by kernel_rfl)
def KAwake39:CF:=⟨112,[.agg ⟨[vJ 301,vJ 297,vI 0,vI 0,vI 1706,vI 1706]⟩,.func (.func 111) ⟨[]⟩ ⟨[]⟩,.agg ⟨[vI 0,vI 0]⟩],.agg ⟨[vI 0,vI 0,vI 0,vI 0,vI 0,vI 0]⟩⟩
theorem kAwake39:KAwake39.Ok Try.prog:=CF.of2 noNG mixed (l:=[]) .nil 3000 (by kernel_rfl)
def KAwake40:CF:=⟨99,[.agg wAwake4,.agg ⟨[vI 0,vI 0,vI 0,vI 10,vI 10,vI 0,vI 0,vI 0,vI 0,vI 0,vI 0,vI 0,vI 0]⟩,.agg wAwake8],.agg ⟨[vI 0,vI 0,vI 0,vI 0,vI 0,vI 0]⟩⟩
theorem kAwake40:KAwake40.Ok Try.prog:=CF.of2 noNG mixed (l:=[KAwake15,KAwake38,KAwake39]) (.cons kAwake15 (.cons kAwake38 (.cons kAwake39 .nil))) 3000 (by kernel_rfl)
def KAwake41:CF:=⟨69,[.agg wAwake4,.agg ⟨[vI 0,vI 0,vI 0,vI 10,vI 10,vI 0,vI 0,vI 0,vI 0,vI 0,vI 0,vI 0,vI 0]⟩,.agg wAwake8],.agg ⟨[vI 0,vI 0,vI 0,vI 0,vJ 97,vJ 97]⟩⟩
theorem kAwake41:KAwake41.Ok Try.prog:=CF.of2 noNG mixed (l:=[KAwake40,KAwake30]) (.cons kAwake40 (.cons kAwake30 .nil)) 3000 (by kernel_rfl)
def KAwake42:CF:=⟨119,[.agg wAwake8,.agg ⟨[vI 0,vI 0,vI 0,vI 0,vJ 97,vJ 97]⟩],.agg wAwake9⟩
theorem kAwake42:KAwake42.Ok Try.prog:=CF.of2 noNG mixed (l:=[]) .nil 3000 (by kernel_rfl)
def KAwake43:CF:=⟨68,[.agg wAwake9],vF⟩
theorem kAwake43:KAwake43.Ok Try.prog:=CF.of2 noNG mixed (l:=[]) .nil 3000 (by kernel_rfl)
def KAwake44:CF:=⟨70,[lstV wAwake0 0 1 13,vI 4],.agg ⟨[vI 0,vI 0,vI 0,vI 10,vI 10,vI 0,vI 0,vI 0,vI 0,vI 0,vI 0,vI 0,vI 0]⟩⟩
theorem kAwake44:KAwake44.Ok Try.prog:=CF.of2 noNG mixed (l:=[]) .nil 3000 (by kernel_rfl)
def KAwake45:CF:=⟨116,[.agg ⟨[vJ 301,vJ 297,vI 0,vI 0,vI 1608,vI 1608]⟩],.agg ⟨[vI 1635,vI 1637]⟩⟩
theorem kAwake45:KAwake45.Ok Try.prog:=CF.of2 noNG mixed (l:=[]) .nil 3000 (by kernel_rfl)
def KAwake46:CF:=⟨112,[.agg ⟨[vJ 301,vJ 297,vI 0,vI 0,vI 1608,vI 1608]⟩,.func (.func 111) ⟨[]⟩ ⟨[]⟩,.agg ⟨[vI 0,vI 0]⟩],.agg ⟨[vI 0,vI 0,vI 0,vI 0,vI 0,vI 0]⟩⟩
theorem kAwake46:KAwake46.Ok Try.prog:=CF.of2 noNG mixed (l:=[]) .nil 3000 (by kernel_rfl)
def KAwake47:CF:=⟨99,[.agg wAwake4,.agg ⟨[vI 0,vI 0,vI 0,vI 10,vI 10,vI 0,vI 0,vI 0,vI 0,vI 0,vI 0,vI 0,vI 0]⟩,.agg wAwake9],.agg ⟨[vI 0,vI 0,vI 0,vI 0,vI 0,vI 0]⟩⟩
theorem kAwake47:KAwake47.Ok Try.prog:=CF.of2 noNG mixed (l:=[KAwake45,KAwake46,KAwake15]) (.cons kAwake45 (.cons kAwake46 (.cons kAwake15 .nil))) 3000 (by kernel_rfl)
def KAwake48:CF:=⟨69,[.agg wAwake4,.agg ⟨[vI 0,vI 0,vI 0,vI 10,vI 10,vI 0,vI 0,vI 0,vI 0,vI 0,vI 0,vI 0,vI 0]⟩,.agg wAwake9],.agg ⟨[vI 0,vI 0,vI 0,vI 0,vJ 97,vJ 97]⟩⟩
theorem kAwake48:KAwake48.Ok Try.prog:=CF.of2 noNG mixed (l:=[KAwake30,KAwake47]) (.cons kAwake30 (.cons kAwake47 .nil)) 3000 (by kernel_rfl)
def KAwake49:CF:=⟨119,[.agg wAwake9,.agg ⟨[vI 0,vI 0,vI 0,vI 0,vJ 97,vJ 97]⟩],.agg wAwake10⟩
theorem kAwake49:KAwake49.Ok Try.prog:=CF.of2 noNG mixed (l:=[]) .nil 3000 (by kernel_rfl)
def KAwake50:CF:=⟨68,[.agg wAwake10],vF⟩
theorem kAwake50:KAwake50.Ok Try.prog:=CF.of2 noNG mixed (l:=[]) .nil 3000 (by kernel_rfl)
def KAwake51:CF:=⟨70,[lstV wAwake0 0 1 13,vI 5],.agg ⟨[vI 0,vI 0,vI 0,vI 10,vI 10,vI 0,vI 0,vI 0,vI 0,vI 0,vI 0,vI 0,vI 0]⟩⟩
theorem kAwake51:KAwake51.Ok Try.prog:=CF.of2 noNG mixed (l:=[]) .nil 3000 (by kernel_rfl)
def KAwake52:CF:=⟨116,[.agg ⟨[vJ 301,vJ 297,vI 0,vI 0,vI 1510,vI 1510]⟩],.agg ⟨[vI 1539,vI 1540]⟩⟩
theorem kAwake52:KAwake52.Ok Try.prog:=CF.of2 noNG mixed (l:=[]) .nil 3000 (by kernel_rfl)
def KAwake53:CF:=⟨112,[.agg ⟨[vJ 301,vJ 297,vI 0,vI 0,vI 1510,vI 1510]⟩,.func (.func 111) ⟨[]⟩ ⟨[]⟩,.agg ⟨[vI 0,vI 0]⟩],.agg ⟨[vI 0,vI 0,vI 0,vI 0,vI 0,vI 0]⟩⟩
theorem kAwake53:KAwake53.Ok Try.prog:=CF.of2 noNG mixed (l:=[]) .nil 3000 (by kernel_rfl)
def KAwake54:CF:=⟨99,[.agg wAwake4,.agg ⟨[vI 0,vI 0,vI 0,vI 10,vI 10,vI 0,vI 0,vI 0,vI 0,vI 0,vI 0,vI 0,vI 0]⟩,.agg wAwake10],.agg ⟨[vI 0,vI 0,vI 0,vI 0,vI 0,vI 0]⟩⟩
theorem kAwake54:KAwake54.Ok Try.prog:=CF.of2 noNG mixed (l:=[KAwake52,KAwake53,KAwake15]) (.cons kAwake52 (.cons kAwake53 (.cons kAwake15 .nil))) 3000 (by kernel_rfl)
def KAwake55:CF:=⟨69,[.agg wAwake4,.agg ⟨[vI 0,vI 0,vI 0,vI 10,vI 10,vI 0,vI 0,vI 0,vI 0,vI 0,vI 0,vI 0,vI 0]⟩,.agg wAwake10],.agg ⟨[vI 0,vI 0,vI 0,vI 0,vJ 97,vJ 97]⟩⟩
theorem kAwake55:KAwake55.Ok Try.prog:=CF.of2 noNG mixed (l:=[KAwake54,KAwake30]) (.cons kAwake54 (.cons kAwake30 .nil)) 3000 (by kernel_rfl)
def KAwake56:CF:=⟨119,[.agg wAwake10,.agg ⟨[vI 0,vI 0,vI 0,vI 0,vJ 97,vJ 97]⟩],.agg wAwake11⟩
theorem kAwake56:KAwake56.Ok Try.prog:=CF.of2 noNG mixed (l:=[]) .nil 3000 (by kernel_rfl)
def KAwake57:CF:=⟨68,[.agg wAwake11],vF⟩
theorem kAwake57:KAwake57.Ok Try.prog:=CF.of2 noNG mixed (l:=[]) .nil 3000 (by kernel_rfl)
def KAwake58:CF:=⟨70,[lstV wAwake0 0 1 13,vI 6],.agg ⟨[vI 0,vI 0,vI 0,vI 10,vI 10,vI 0,vI 0,vI 0,vI 0,vI 0,vI 0,vI 0,vI 0]⟩⟩
theorem kAwake58:KAwake58.Ok Try.prog:=CF.of2 noNG mixed (l:=[]) .nil 3000 (by kernel_rfl)
def KAwake59:CF:=⟨116,[.agg ⟨[vJ 301,vJ 297,vI 0,vI 0,vI 1412,vI 1412]⟩],.agg ⟨[vI 1443,vI 1444]⟩⟩
theorem kAwake59:KAwake59.Ok Try.prog:=CF.of2 noNG mixed (l:=[]) .nil 3000 (by kernel_rfl)
def KAwake60:CF:=⟨112,[.agg ⟨[vJ 301,vJ 297,vI 0,vI 0,vI 1412,vI 1412]⟩,.func (.func 111) ⟨[]⟩ ⟨[]⟩,.agg ⟨[vI 0,vI 0]⟩],.agg ⟨[vI 0,vI 0,vI 0,vI 0,vI 0,vI 0]⟩⟩
theorem kAwake60:KAwake60.Ok Try.prog:=CF.of2 noNG mixed (l:=[]) .nil 3000 (by kernel_rfl)
def KAwake61:CF:=⟨99,[.agg wAwake4,.agg ⟨[vI 0,vI 0,vI 0,vI 10,vI 10,vI 0,vI 0,vI 0,vI 0,vI 0,vI 0,vI 0,vI 0]⟩,.agg wAwake11],.agg ⟨[vI 0,vI 0,vI 0,vI 0,vI 0,vI 0]⟩⟩
theorem kAwake61:KAwake61.Ok Try.prog:=CF.of2 noNG mixed (l:=[KAwake59,KAwake60,KAwake15]) (.cons kAwake59 (.cons kAwake60 (.cons kAwake15 .nil))) 3000 (by kernel_rfl)
def KAwake62:CF:=⟨69,[.agg wAwake4,.agg ⟨[vI 0,vI 0,vI 0,vI 10,vI 10,vI 0,vI 0,vI 0,vI 0,vI 0,vI 0,vI 0,vI 0]⟩,.agg wAwake11],.agg ⟨[vI 0,vI 0,vI 0,vI 0,vJ 97,vJ 97]⟩⟩
theorem kAwake62:KAwake62.Ok Try.prog:=CF.of2 noNG mixed (l:=[KAwake61,KAwake30]) (.cons kAwake61 (.cons kAwake30 .nil)) 3000 (by kernel_rfl)
def KAwake63:CF:=⟨119,[.agg wAwake11,.agg ⟨[vI 0,vI 0,vI 0,vI 0,vJ 97,vJ 97]⟩],.agg wAwake12⟩
theorem kAwake63:KAwake63.Ok Try.prog:=CF.of2 noNG mixed (l:=[]) .nil 3000 (by kernel_rfl)
def KAwake64:CF:=⟨68,[.agg wAwake12],vF⟩
theorem kAwake64:KAwake64.Ok Try.prog:=CF.of2 noNG mixed (l:=[]) .nil 3000 (by kernel_rfl)
def KAwake65:CF:=⟨70,[lstV wAwake0 0 1 13,vI 7],.agg ⟨[vI 0,vI 0,vI 0,vI 10,vI 10,vI 0,vI 0,vI 0,vI 0,vI 0,vI 0,vI 0,vI 0]⟩⟩
theorem kAwake65:KAwake65.Ok Try.prog:=CF.of2 noNG mixed (l:=[]) .nil 3000 (by kernel_rfl)
def KAwake66:CF:=⟨116,[.agg ⟨[vJ 301,vJ 297,vI 0,vI 0,vI 1314,vI 1314]⟩],.agg ⟨[vI 1347,vI 1349]⟩⟩
theorem kAwake66:KAwake66.Ok Try.prog:=CF.of2 noNG mixed (l:=[]) .nil 3000 (by kernel_rfl)
def KAwake67:CF:=⟨112,[.agg ⟨[vJ 301,vJ 297,vI 0,vI 0,vI 1314,vI 1314]⟩,.func (.func 111) ⟨[]⟩ ⟨[]⟩,.agg ⟨[vI 0,vI 0]⟩],.agg ⟨[vI 0,vI 0,vI 0,vI 0,vI 0,vI 0]⟩⟩
theorem kAwake67:KAwake67.Ok Try.prog:=CF.of2 noNG mixed (l:=[]) .nil 3000 (by kernel_rfl)
def KAwake68:CF:=⟨99,[.agg wAwake4,.agg ⟨[vI 0,vI 0,vI 0,vI 10,vI 10,vI 0,vI 0,vI 0,vI 0,vI 0,vI 0,vI 0,vI 0]⟩,.agg wAwake12],.agg ⟨[vI 0,vI 0,vI 0,vI 0,vI 0,vI 0]⟩⟩
theorem kAwake68:KAwake68.Ok Try.prog:=CF.of2 noNG mixed (l:=[KAwake66,KAwake67,KAwake15]) (.cons kAwake66 (.cons kAwake67 (.cons kAwake15 .nil))) 3000 (by kernel_rfl)
def KAwake69:CF:=⟨69,[.agg wAwake4,.agg ⟨[vI 0,vI 0,vI 0,vI 10,vI 10,vI 0,vI 0,vI 0,vI 0,vI 0,vI 0,vI 0,vI 0]⟩,.agg wAwake12],.agg ⟨[vI 0,vI 0,vI 0,vI 0,vJ 97,vJ 97]⟩⟩
theorem kAwake69:KAwake69.Ok Try.prog:=CF.of2 noNG mixed (l:=[KAwake68,KAwake30]) (.cons kAwake68 (.cons kAwake30 .nil)) 3000 (by kernel_rfl)
def KAwake70:CF:=⟨119,[.agg wAwake12,.agg ⟨[vI 0,vI 0,vI 0,vI 0,vJ 97,vJ 97]⟩],.agg wAwake13⟩
theorem kAwake70:KAwake70.Ok Try.prog:=CF.of2 noNG mixed (l:=[]) .nil 3000 (by kernel_rfl)
def KAwake71:CF:=⟨68,[.agg wAwake13],vF⟩
theorem kAwake71:KAwake71.Ok Try.prog:=CF.of2 noNG mixed (l:=[]) .nil 3000 (by kernel_rfl)
def KAwake72:CF:=⟨70,[lstV wAwake0 0 1 13,vI 8],.agg ⟨[vI 0,vI 0,vI 0,vI 10,vI 10,vI 0,vI 0,vI 0,vI 0,vI 0,vI 0,vI 0,vI 0]⟩⟩
theorem kAwake72:KAwake72.Ok Try.prog:=CF.of2 noNG mixed (l:=[]) .nil 3000 (by kernel_rfl)
def KAwake73:CF:=⟨116,[.agg ⟨[vJ 301,vJ 297,vI 0,vI 0,vI 1216,vI 1216]⟩],.agg ⟨[vI 1251,vI 1253]⟩⟩
theorem kAwake73:KAwake73.Ok Try.prog:=CF.of2 noNG mixed (l:=[]) .nil 3000 (by kernel_rfl)
def KAwake74:CF:=⟨112,[.agg ⟨[vJ 301,vJ 297,vI 0,vI 0,vI 1216,vI 1216]⟩,.func (.func 111) ⟨[]⟩ ⟨[]⟩,.agg ⟨[vI 0,vI 0]⟩],.agg ⟨[vI 0,vI 0,vI 0,vI 0,vI 0,vI 0]⟩⟩
theorem kAwake74:KAwake74.Ok Try.prog:=CF.of2 noNG mixed (l:=[]) .nil 3000 (by kernel_rfl)
def KAwake75:CF:=⟨99,[.agg wAwake4,.agg ⟨[vI 0,vI 0,vI 0,vI 10,vI 10,vI 0,vI 0,vI 0,vI 0,vI 0,vI 0,vI 0,vI 0]⟩,.agg wAwake13],.agg ⟨[vI 0,vI 0,vI 0,vI 0,vI 0,vI 0]⟩⟩
theorem kAwake75:KAwake75.Ok Try.prog:=CF.of2 noNG mixed (l:=[KAwake73,KAwake74,KAwake15]) (.cons kAwake73 (.cons kAwake74 (.cons kAwake15 .nil))) 3000 (by kernel_rfl)
def KAwake76:CF:=⟨69,[.agg wAwake4,.agg ⟨[vI 0,vI 0,vI 0,vI 10,vI 10,vI 0,vI 0,vI 0,vI 0,vI 0,vI 0,vI 0,vI 0]⟩,.agg wAwake13],.agg ⟨[vI 0,vI 0,vI 0,vI 0,vJ 97,vJ 97]⟩⟩
theorem kAwake76:KAwake76.Ok Try.prog:=CF.of2 noNG mixed (l:=[KAwake75,KAwake30]) (.cons kAwake75 (.cons kAwake30 .nil)) 3000 (by kernel_rfl)
def KAwake77:CF:=⟨119,[.agg wAwake13,.agg ⟨[vI 0,vI 0,vI 0,vI 0,vJ 97,vJ 97]⟩],.agg wAwake14⟩
theorem kAwake77:KAwake77.Ok Try.prog:=CF.of2 noNG mixed (l:=[]) .nil 3000 (by kernel_rfl)
def KAwake78:CF:=⟨68,[.agg wAwake14],vF⟩
theorem kAwake78:KAwake78.Ok Try.prog:=CF.of2 noNG mixed (l:=[]) .nil 3000 (by kernel_rfl)
def KAwake79:CF:=⟨70,[lstV wAwake0 0 1 13,vI 9],.agg ⟨[vI 0,vI 0,vI 0,vI 10,vI 10,vI 0,vI 0,vI 0,vI 0,vI 0,vI 0,vI 0,vI 0]⟩⟩
theorem kAwake79:KAwake79.Ok Try.prog:=CF.of2 noNG mixed (l:=[]) .nil 3000 (by kernel_rfl)
end
end Go.Proofs.Ytggaomgopenkfaa
