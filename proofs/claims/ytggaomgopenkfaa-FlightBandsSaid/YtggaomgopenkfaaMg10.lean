/- Part 10 of the texts below the claim. Conditions: none. -/
import Derived.Test.YtggaomgopenkfaaMg9
set_option linter.unusedVariables false
set_option linter.unusedSimpArgs false
namespace Go.Proofs.Ytggaomgopenkfaa
open Go.Gi Go.RowKit
noncomputable section
set_option maxRecDepth 100000
set_option maxHeartbeats 4000000
def KAwake0:CF:=⟨22,[],.agg wAwake1⟩
theorem kAwake0:KAwake0.Ok Try.prog:=CF.of2 noNG mixed (l:=[]) .nil 3000 (by kernel_rfl)
def KAwake1:CF:=⟨24,[],lstV ⟨[vI 0,vI 100000,vI 300,vI 300,vI 0,vI 0]⟩ 0 1 6⟩
theorem kAwake1:KAwake1.Ok Try.prog:=CF.of2 noNG mixed (l:=[]) .nil 3000 (by kernel_rfl)
def KAwake2:CF:=⟨13,[.agg wAwake1],.tuple ⟨[vI 0,vI 0,vI 0]⟩⟩
theorem kAwake2:KAwake2.Ok Try.prog:=CF.of2 noNG mixed (l:=[]) .nil 3000 (by kernel_rfl)
def KAwake3:CF:=⟨56,[lstV ⟨[vI 0,vI 100000,vI 300,vI 300,vI 0,vI 0]⟩ 0 1 6],lstV wAwake2 0 2 7⟩
theorem kAwake3:KAwake3.Ok Try.prog:=CF.of2 noNG mixed (l:=[]) .nil 3000 (by kernel_rfl)
def KAwake4:CF:=⟨63,[.slice none 0 0],lstV ⟨[vI 0,vI 0,vI 0]⟩ 0 1 3⟩
theorem kAwake4:KAwake4.Ok Try.prog:=CF.of2 noNG mixed (l:=[]) .nil 3000 (by kernel_rfl)
def KAwake5:CF:=⟨66,[.agg wAwake1,.agg ⟨[vI 0,vI 0,vI 10000]⟩,lstV ⟨[vI 0,vI 100000,vI 300,vI 300,vI 0,vI 0]⟩ 0 1 6],.tuple ⟨[.agg wAwake3,vI 0]⟩⟩
theorem kAwake5:KAwake5.Ok Try.prog:=CF.of2 noNG mixed (l:=[KAwake2,KAwake3,KAwake4]) (.cons kAwake2 (.cons kAwake3 (.cons kAwake4 .nil))) 3000 (by kernel_rfl)
def KAwake6:CF:=⟨104,[.agg wAwake3,.agg ⟨[vI 0,vI 0,vI 0,vI 0,vI 0,vI 0,vI 0,vI 0,vI 0,vI 0,vI 0,vI 0]⟩,vI 0,vI 3000,.func (.func 70) ⟨[lstV wAwake0 0 1 13]⟩ ⟨[]⟩],.func (.func 118) ⟨[]⟩ wAwake5⟩
theorem kAwake6:KAwake6.Ok Try.prog:=CF.of2 noNG mixed (l:=[]) .nil 3000 (by kernel_rfl)
def KAwake7:CF:=⟨72,[.agg wAwake3,vI 3000],.func (.func 118) ⟨[]⟩ wAwake5⟩
theorem kAwake7:KAwake7.Ok Try.prog:=CF.of2 noNG mixed (l:=[KAwake6]) (.cons kAwake6 .nil) 3000 (by kernel_rfl)
def KAwake8:CF:=⟨68,[.agg ⟨[vI 0,vI 0,vI 0,vI 0,vI 0,vI 0,vI 0,vI 0,vI 0,vI 0,vI 0,vI 0]⟩],vF⟩
theorem kAwake8:KAwake8.Ok Try.prog:=CF.of2 noNG mixed (l:=[]) .nil 3000 (by kernel_rfl)
def KAwake9:CF:=⟨70,[lstV wAwake0 0 1 13,vI 0],.agg wAwake0⟩
theorem kAwake9:KAwake9.Ok Try.prog:=CF.of2 noNG mixed (l:=[]) .nil 3000 (by kernel_rfl)
def KAwake10:CF:=⟨112,[.agg ⟨[vJ 9,vI 10,vI 0,vI 0,vI 10000,vI 10000]⟩,.func (.func 111) ⟨[]⟩ ⟨[]⟩,.agg ⟨[vI 10000,vI 10000]⟩],.agg ⟨[vJ 99999,vI 100000,vI 0,vI 0,vI 100000000,vI 100000000]⟩⟩
theorem kAwake10:KAwake10.Ok Try.prog:=CF.of2 noNG mixed (l:=[]) .nil 3000 (by kernel_rfl)
def KAwake11:CF:=⟨112,[.agg ⟨[vJ 99999,vI 100000,vI 0,vI 0,vI 100000000,vI 100000000]⟩,.func (.func 113) ⟨[]⟩ ⟨[]⟩,.agg ⟨[vI 100000,vI 100000]⟩],.agg ⟨[vJ 0,vI 1,vI 0,vI 0,vI 1000,vI 1000]⟩⟩
theorem kAwake11:KAwake11.Ok Try.prog:=CF.of2 noNG mixed (l:=[]) .nil 3000 (by kernel_rfl)
def KAwake12:CF:=⟨97,[.agg wAwake4,.agg wAwake0],.agg ⟨[vJ 0,vI 1,vI 0,vI 0,vI 1000,vI 1000]⟩⟩
theorem kAwake12:KAwake12.Ok Try.prog:=CF.of2 noNG mixed (l:=[KAwake10,KAwake11]) (.cons kAwake10 (.cons kAwake11 .nil)) 3000 (by kernel_rfl)
def KAwake13:CF:=⟨116,[.agg ⟨[vJ 299,vJ 299,vI 0,vI 0,vI 0,vI 0]⟩],.agg ⟨[vI 300,vI 300]⟩⟩
theorem kAwake13:KAwake13.Ok Try.prog:=CF.of2 noNG mixed (l:=[]) .nil 3000 (by kernel_rfl)
def KAwake14:CF:=⟨112,[.agg ⟨[vJ 299,vJ 299,vI 0,vI 0,vI 0,vI 0]⟩,.func (.func 111) ⟨[]⟩ ⟨[]⟩,.agg ⟨[vI 0,vI 0]⟩],.agg ⟨[vI 0,vI 0,vI 0,vI 0,vI 0,vI 0]⟩⟩
theorem kAwake14:KAwake14.Ok Try.prog:=CF.of2 noNG mixed (l:=[]) .nil 3000 (by kernel_rfl)
def KAwake15:CF:=⟨112,[.agg ⟨[vI 0,vI 0,vI 0,vI 0,vI 0,vI 0]⟩,.func (.func 113) ⟨[]⟩ ⟨[]⟩,.agg ⟨[vI 10000000000,vI 10000000000]⟩],.agg ⟨[vI 0,vI 0,vI 0,vI 0,vI 0,vI 0]⟩⟩
theorem kAwake15:KAwake15.Ok Try.prog:=CF.of2 noNG mixed (l:=[]) .nil 3000 (by kernel_rfl)
def KAwake16:CF:=⟨99,[.agg wAwake4,.agg wAwake0,.agg ⟨[vI 0,vI 0,vI 0,vI 0,vI 0,vI 0,vI 0,vI 0,vI 0,vI 0,vI 0,vI 0]⟩],.agg ⟨[vI 0,vI 0,vI 0,vI 0,vI 0,vI 0]⟩⟩
theorem kAwake16:KAwake16.Ok Try.prog:=CF.of2 noNG mixed (l:=[KAwake13,KAwake14,KAwake15]) (.cons kAwake13 (.cons kAwake14 (.cons kAwake15 .nil))) 3000 (by kernel_rfl)
def KAwake17:CF:=⟨69,[.agg wAwake4,.agg wAwake0,.agg ⟨[vI 0,vI 0,vI 0,vI 0,vI 0,vI 0,vI 0,vI 0,vI 0,vI 0,vI 0,vI 0]⟩],.agg ⟨[vJ 0,vI 1,vI 0,vI 0,vI 902,vI 902]⟩⟩
theorem kAwake17:KAwake17.Ok Try.prog:=CF.of2 noNG mixed (l:=[KAwake16,KAwake12]) (.cons kAwake16 (.cons kAwake12 .nil)) 3000 (by kernel_rfl)
def KAwake18:CF:=⟨119,[.agg ⟨[vI 0,vI 0,vI 0,vI 0,vI 0,vI 0,vI 0,vI 0,vI 0,vI 0,vI 0,vI 0]⟩,.agg ⟨[vJ 0,vI 1,vI 0,vI 0,vI 902,vI 902]⟩],.agg wAwake6⟩
theorem kAwake18:KAwake18.Ok Try.prog:=CF.of2 noNG mixed (l:=[]) .nil 3000 (by kernel_rfl)
def KAwake19:CF:=⟨68,[.agg wAwake6],vF⟩
theorem kAwake19:KAwake19.Ok Try.prog:=CF.of2 noNG mixed (l:=[]) .nil 3000 (by kernel_rfl)
def KAwake20:CF:=⟨70,[lstV wAwake0 0 1 13,vI 1],.agg wAwake0⟩
theorem kAwake20:KAwake20.Ok Try.prog:=CF.of2 noNG mixed (l:=[]) .nil 3000 (by kernel_rfl)
def KAwake21:CF:=⟨116,[.agg ⟨[vJ 300,vJ 298,vI 0,vI 0,vI 902,vI 902]⟩],.agg ⟨[vI 950,vI 951]⟩⟩
theorem kAwake21:KAwake21.Ok Try.prog:=CF.of2 noNG mixed (l:=[]) .nil 3000 (by kernel_rfl)
def KAwake22:CF:=⟨112,[.agg ⟨[vJ 300,vJ 298,vI 0,vI 0,vI 902,vI 902]⟩,.func (.func 111) ⟨[]⟩ ⟨[]⟩,.agg ⟨[vI 0,vI 0]⟩],.agg ⟨[vI 0,vI 0,vI 0,vI 0,vI 0,vI 0]⟩⟩
theorem kAwake22:KAwake22.Ok Try.prog:=CF.of2 noNG mixed (l:=[]) .nil 3000 (by kernel_rfl)
def KAwake23:CF:=⟨99,[.agg wAwake4,.agg wAwake0,.agg wAwake6],.agg ⟨[vI 0,vI 0,vI 0,vI 0,vI 0,vI 0]⟩⟩
theorem kAwake23:KAwake23.Ok Try.prog:=CF.of2 noNG mixed (l:=[KAwake21,KAwake22,KAwake15]) (.cons kAwake21 (.cons kAwake22 (.cons kAwake15 .nil))) 3000 (by kernel_rfl)
def KAwake24:CF:=⟨69,[.agg wAwake4,.agg wAwake0,.agg wAwake6],.agg ⟨[vJ 0,vI 1,vI 0,vI 0,vI 902,vI 902]⟩⟩
theorem kAwake24:KAwake24.Ok Try.prog:=CF.of2 noNG mixed (l:=[KAwake12,KAwake23]) (.cons kAwake12 (.cons kAwake23 .nil)) 3000 (by kernel_rfl)
def KAwake25:CF:=⟨119,[.agg wAwake6,.agg ⟨[vJ 0,vI 1,vI 0,vI 0,vI 902,vI 902]⟩],.agg wAwake7⟩
theorem kAwake25:KAwake25.Ok Try.prog:=CF.of2 noNG mixed (l:=[]) .nil 3000 (by kernel_rfl)
def KAwake26:CF:=⟨68,[.agg wAwake7],vF⟩
theorem kAwake26:KAwake26.Ok Try.prog:=CF.of2 noNG mixed (l:=[]) .nil 3000 (by kernel_rfl)
def KAwake27:CF:=⟨70,[lstV wAwake0 0 1 13,vI 2],.agg ⟨[vI 0,vI 0,vI 0,vI 10,vI 10,vI 0,vI 0,vI 0,vI 0,vI 0,vI 0,vI 0,vI 0]⟩⟩
theorem kAwake27:KAwake27.Ok Try.prog:=CF.of2 noNG mixed (l:=[]) .nil 3000 (by kernel_rfl)
def KAwake28:CF:=⟨112,[.agg ⟨[vI 0,vI 0,vI 0,vI 0,vI 10000,vI 10000]⟩,.func (.func 111) ⟨[]⟩ ⟨[]⟩,.agg ⟨[vI 0,vI 0]⟩],.agg ⟨[vI 0,vI 0,vI 0,vI 0,vI 0,vI 0]⟩⟩
theorem kAwake28:KAwake28.Ok Try.prog:=CF.of2 noNG mixed (l:=[]) .nil 3000 (by kernel_rfl)
def KAwake29:CF:=⟨112,[.agg ⟨[vI 0,vI 0,vI 0,vI 0,vI 0,vI 0]⟩,.func (.func 113) ⟨[]⟩ ⟨[]⟩,.agg ⟨[vI 100000,vI 100000]⟩],.agg ⟨[vI 0,vI 0,vI 0,vI 0,vI 0,vI 0]⟩⟩
theorem kAwake29:KAwake29.Ok Try.prog:=CF.of2 noNG mixed (l:=[]) .nil 3000 (by kernel_rfl)
def KAwake30:CF:=⟨97,[.agg wAwake4,.agg ⟨[vI 0,vI 0,vI 0,vI 10,vI 10,vI 0,vI 0,vI 0,vI 0,vI 0,vI 0,vI 0,vI 0]⟩],.agg ⟨[vI 0,vI 0,vI 0,vI 0,vI 0,vI 0]⟩⟩
theorem kAwake30:KAwake30.Ok Try.prog:=CF.of2 noNG mixed (l:=[KAwake28,KAwake29]) (.cons kAwake28 (.cons kAwake29 .nil)) 3000 (by kernel_rfl)
def KAwake31:CF:=⟨116,[.agg ⟨[vJ 301,vJ 297,vI 0,vI 0,vI 1804,vI 1804]⟩],.agg ⟨[vI 1828,vI 1830]⟩⟩
theorem kAwake31:KAwake31.Ok Try.prog:=CF.of2 noNG mixed (l:=[]) .nil 3000 (by kernel_rfl)
def KAwake32:CF:=⟨112,[.agg ⟨[vJ 301,vJ 297,vI 0,vI 0,vI 1804,vI 1804]⟩,.func (.func 111) ⟨[]⟩ ⟨[]⟩,.agg ⟨[vI 0,vI 0]⟩],.agg ⟨[vI 0,vI 0,vI 0,vI 0,vI 0,vI 0]⟩⟩
theorem kAwake32:KAwake32.Ok Try.prog:=CF.of2 noNG mixed (l:=[]) .nil 3000 (by kernel_rfl)
def KAwake33:CF:=⟨99,[.agg wAwake4,.agg ⟨[vI 0,vI 0,vI 0,vI 10,vI 10,vI 0,vI 0,vI 0,vI 0,vI 0,vI 0,vI 0,vI 0]⟩,.agg wAwake7],.agg ⟨[vI 0,vI 0,vI 0,vI 0,vI 0,vI 0]⟩⟩
theorem kAwake33:KAwake33.Ok Try.prog:=CF.of2 noNG mixed (l:=[KAwake32,KAwake15,KAwake31]) (.cons kAwake32 (.cons kAwake15 (.cons kAwake31 .nil))) 3000 (by kernel_rfl)
def KAwake34:CF:=⟨69,[.agg wAwake4,.agg ⟨[vI 0,vI 0,vI 0,vI 10,vI 10,vI 0,vI 0,vI 0,vI 0,vI 0,vI 0,vI 0,vI 0]⟩,.agg wAwake7],.agg ⟨[vI 0,vI 0,vI 0,vI 0,vJ 97,vJ 97]⟩⟩
theorem kAwake34:KAwake34.Ok Try.prog:=CF.of2 noNG mixed (l:=[KAwake33,KAwake30]) (.cons kAwake33 (.cons kAwake30 .nil)) 3000 (by kernel_rfl)
def KAwake35:CF:=⟨119,[.agg wAwake7,.agg ⟨[vI 0,vI 0,vI 0,vI 0,vJ 97,vJ 97]⟩],.agg wAwake8⟩
theorem kAwake35:KAwake35.Ok Try.prog:=CF.of2 noNG mixed (l:=[]) .nil 3000 (by kernel_rfl)
def KAwake36:CF:=⟨68,[.agg wAwake8],vF⟩
theorem kAwake36:KAwake36.Ok Try.prog:=CF.of2 noNG mixed (l:=[]) .nil 3000 (by kernel_rfl)
def KAwake37:CF:=⟨70,[lstV wAwake0 0 1 13,vI 3],.agg ⟨[vI 0,vI 0,vI 0,vI 10,vI 10,vI 0,vI 0,vI 0,vI 0,vI 0,vI 0,vI 0,vI 0]⟩⟩
theorem kAwake37:KAwake37.Ok Try.prog:=CF.of2 noNG mixed (l:=[]) .nil 3000 (by kernel_rfl)
def KAwake38:CF:=⟨116,[.agg ⟨[vJ 301,vJ 297,vI 0,vI 0,vI 1706,vI 1706]⟩],.agg ⟨[vI 1731,vI 1733]⟩⟩
theorem kAwake38:KAwake38.Ok Try.prog:=CF.of2 noNG mixed (l:=[]) .nil 3000 (by kernel_rfl)
def KAwake39:CF:=⟨112,[.agg ⟨[vJ 301,vJ 297,vI 0,vI 0,vI 1706,vI 1706]⟩,.func (.func 111) ⟨[]⟩ ⟨[]⟩,.agg ⟨[vI 0,vI 0]⟩],.agg ⟨[vI 0,vI 0,vI 0,vI 0,vI 0,vI 0]⟩⟩
theorem kAwake39:KAwake39.Ok Try.prog:=CF.of2 noNG mixed (l:=[]) .nil 3000 (by kernel_rfl)
def KAwake40:CF:=⟨99,[.agg wAwake4,.agg ⟨[vI 0,vI 0,vI 0,vI 10,vI 10,vI 0,vI 0,vI 0,vI 0,vI 0,vI 0,vI 0,vI 0]⟩,.agg wAwake8],.agg ⟨[vI 0,vI 0,vI 0,vI 0,vI 0,vI 0]⟩⟩
theorem kAwake40:KAwake40.Ok Try.prog:=CF.of2 noNG mixed (l:=[KAwake15,KAwake38,KAwake39]) (.cons kAwake15 (.cons kAwake38 (.cons kAwake39 .nil))) 3000 (by kernel_rfl)
def KAwake41:CF:=⟨69,[.agg wAwake4,.agg ⟨[vI 0,vI 0,vI 0,vI 10,vI 10,vI 0,vI 0,vI 0,vI 0,vI 0,vI 0,vI 0,vI 0]⟩,.agg wAwake8],.agg ⟨[vI 0,vI 0,vI 0,vI 0,vJ 97,vJ 97]⟩⟩
theorem kAwake41:KAwake41.Ok Try.prog:=CF.of2 noNG mixed (l:=[KAwake40,KAwake30]) (.cons kAwake40 (.cons kAwake30 .nil)) 3000 (by kernel_rfl)
def KAwake42:CF:=⟨119,[.agg wAwake8,.agg ⟨[vI 0,vI 0,vI 0,vI 0,vJ 97,vJ 97]⟩],.agg wAwake9⟩
theorem kAwake42:KAwake42.Ok Try.prog:=CF.of2 noNG mixed (l:=[]) .nil 3000 (by kernel_rfl)
def KAwake43:CF:=⟨68,[.agg wAwake9],vF⟩
theorem kAwake43:KAwake43.Ok Try.prog:=CF.of2 noNG mixed (l:=[]) .nil 3000 (by kernel_rfl)
def KAwake44:CF:=⟨70,[lstV wAwake0 0 1 13,vI 4],.agg ⟨[vI 0,vI 0,vI 0,vI 10,vI 10,vI 0,vI 0,vI 0,vI 0,vI 0,vI 0,vI 0,vI 0]⟩⟩
theorem kAwake44:KAwake44.Ok Try.prog:=CF.of2 noNG mixed (l:=[]) .nil 3000 (by kernel_rfl)
def KAwake45:CF:=⟨116,[.agg ⟨[vJ 301,vJ 297,vI 0,vI 0,vI 1608,vI 1608]⟩],.agg ⟨[vI 1635,vI 1637]⟩⟩
theorem kAwake45:KAwake45.Ok Try.prog:=CF.of2 noNG mixed (l:=[]) .nil 3000 (by kernel_rfl)
def KAwake46:CF:=⟨112,[.agg ⟨[vJ 301,vJ 297,vI 0,vI 0,vI 1608,vI 1608]⟩,.func (.func 111) ⟨[]⟩ ⟨[]⟩,.agg ⟨[vI 0,vI 0]⟩],.agg ⟨[vI 0,vI 0,vI 0,vI 0,vI 0,vI 0]⟩⟩
theorem kAwake46:KAwake46.Ok Try.prog:=CF.of2 noNG mixed (l:=[]) .nil 3000 (by kernel_rfl)
def KAwake47:CF:=⟨99,[.agg wAwake4,.agg ⟨[vI 0,vI 0,vI 0,vI 10,vI 10,vI 0,vI 0,vI 0,vI 0,vI 0,vI 0,vI 0,vI 0]⟩,.agg wAwake9],.agg ⟨[vI 0,vI 0,vI 0,vI 0,vI 0,vI 0]⟩⟩
theorem kAwake47:KAwake47.Ok Try.prog:=CF.of2 noNG mixed (l:=[KAwake45,KAwake46,KAwake15]) (.cons kAwake45 (.cons kAwake46 (.cons kAwake15 .nil))) 3000 (by kernel_rfl)
def KAwake48:CF:=⟨69,[.agg wAwake4,.agg ⟨[vI 0,vI 0,vI 0,vI 10,vI 10,vI 0,vI 0,vI 0,vI 0,vI 0,vI 0,vI 0,vI 0]⟩,.agg wAwake9],.agg ⟨[vI 0,vI 0,vI 0,vI 0,vJ 97,vJ 97]⟩⟩
theorem kAwake48:KAwake48.Ok Try.prog:=CF.of2 noNG mixed (l:=[KAwake30,KAwake47]) (.cons kAwake30 (.cons kAwake47 .nil)) 3000 (by kernel_rfl)
def KAwake49:CF:=⟨119,[.agg wAwake9,.agg ⟨[vI 0,vI 0,vI 0,vI 0,vJ 97,vJ 97]⟩],.agg wAwake10⟩
theorem kAwake49:KAwake49.Ok Try.prog:=CF.of2 noNG mixed (l:=[]) .nil 3000 (by kernel_rfl)
def KAwake50:CF:=⟨68,[.agg wAwake10],vF⟩
theorem kAwake50:KAwake50.Ok Try.prog:=CF.of2 noNG mixed (l:=[]) .nil 3000 (by kernel_rfl)
def KAwake51:CF:=⟨70,[lstV wAwake0 0 1 13,vI 5],.agg ⟨[vI 0,vI 0,vI 0,vI 10,vI 10,vI 0,vI 0,vI 0,vI 0,vI 0,vI 0,vI 0,vI 0]⟩⟩
theorem kAwake51:KAwake51.Ok Try.prog:=CF.of2 noNG mixed (l:=[]) .nil 3000 (by kernel_rfl)
def KAwake52:CF:=⟨116,[.agg ⟨[vJ 301,vJ 297,vI 0,vI 0,vI 1510,vI 1510]⟩],.agg ⟨[vI 1539,vI 1540]⟩⟩
theorem kAwake52:KAwake52.Ok Try.prog:=CF.of2 noNG mixed (l:=[]) .nil 3000 (by kernel_rfl)
def KAwake53:CF:=⟨112,[.agg ⟨[vJ 301,vJ 297,vI 0,vI 0,vI 1510,vI 1510]⟩,.func (.func 111) ⟨[]⟩ ⟨[]⟩,.agg ⟨[vI 0,vI 0]⟩],.agg ⟨[vI 0,vI 0,vI 0,vI 0,vI 0,vI 0]⟩⟩
theorem kAwake53:KAwake53.Ok Try.prog:=CF.of2 noNG mixed (l:=[]) .nil 3000 (by kernel_rfl)
def KAwake54:CF:=⟨99,[.agg wAwake4,.agg ⟨[vI 0,vI 0,vI 0,vI 10,vI 10,vI 0,vI 0,vI 0,vI 0,vI 0,vI 0,vI 0,vI 0]⟩,.agg wAwake10],.agg ⟨[vI 0,vI 0,vI 0,vI 0,vI 0,vI 0]⟩⟩
theorem kAwake54:KAwake54.Ok Try.prog:=CF.of2 noNG mixed (l:=[KAwake52,KAwake53,KAwake15]) (.cons kAwake52 (.cons kAwake53 (.cons kAwake15 .nil))) 3000 (by kernel_rfl)
def KAwake55:CF:=⟨69,[.agg wAwake4,.agg ⟨[vI 0,vI 0,vI 0,vI 10,vI 10,vI 0,vI 0,vI 0,vI 0,vI 0,vI 0,vI 0,vI 0]⟩,.agg wAwake10],.agg ⟨[vI 0,vI 0,vI 0,vI 0,vJ 97,vJ 97]⟩⟩
theorem kAwake55:KAwake55.Ok Try.prog:=CF.of2 noNG mixed (l:=[KAwake54,KAwake30]) (.cons kAwake54 (.cons kAwake30 .nil)) 3000 (by kernel_rfl)
def KAwake56:CF:=⟨119,[.agg wAwake10,.agg ⟨[vI 0,vI 0,vI 0,vI 0,vJ 97,vJ 97]⟩],.agg wAwake11⟩
theorem kAwake56:KAwake56.Ok Try.prog:=CF.of2 noNG mixed (l:=[]) .nil 3000 (by kernel_rfl)
def KAwake57:CF:=⟨68,[.agg wAwake11],vF⟩
theorem kAwake57:KAwake57.Ok Try.prog:=CF.of2 noNG mixed (l:=[]) .nil 3000 (by kernel_rfl)
def KAwake58:CF:=⟨70,[lstV wAwake0 0 1 13,vI 6],.agg ⟨[vI 0,vI 0,vI 0,vI 10,vI 10,vI 0,vI 0,vI 0,vI 0,vI 0,vI 0,vI 0,vI 0]⟩⟩
theorem kAwake58:KAwake58.Ok Try.prog:=CF.of2 noNG mixed (l:=[]) .nil 3000 (by kernel_rfl)
def KAwake59:CF:=⟨116,[.agg ⟨[vJ 301,vJ 297,vI 0,vI 0,vI 1412,vI 1412]⟩],.agg ⟨[vI 1443,vI 1444]⟩⟩
theorem kAwake59:KAwake59.Ok Try.prog:=CF.of2 noNG mixed (l:=[]) .nil 3000 (by kernel_rfl)
def KAwake60:CF:=⟨112,[.agg ⟨[vJ 301,vJ 297,vI 0,vI 0,vI 1412,vI 1412]⟩,.func (.func 111) ⟨[]⟩ ⟨[]⟩,.agg ⟨[vI 0,vI 0]⟩],.agg ⟨[vI 0,vI 0,vI 0,vI 0,vI 0,vI 0]⟩⟩
theorem kAwake60:KAwake60.Ok Try.prog:=CF.of2 noNG mixed (l:=[]) .nil 3000 (by kernel_rfl)
def KAwake61:CF:=⟨99,[.agg wAwake4,.agg ⟨[vI 0,vI 0,vI 0,vI 10,vI 10,vI 0,vI 0,vI 0,vI 0,vI 0,vI 0,vI 0,vI 0]⟩,.agg wAwake11],.agg ⟨[vI 0,vI 0,vI 0,vI 0,vI 0,vI 0]⟩⟩
theorem kAwake61:KAwake61.Ok Try.prog:=CF.of2 noNG mixed (l:=[KAwake59,KAwake60,KAwake15]) (.cons kAwake59 (.cons kAwake60 (.cons kAwake15 .nil))) 3000 (by kernel_rfl)
def KAwake62:CF:=⟨69,[.agg wAwake4,.agg ⟨[vI 0,vI 0,vI 0,vI 10,vI 10,vI 0,vI 0,vI 0,vI 0,vI 0,vI 0,vI 0,vI 0]⟩,.agg wAwake11],.agg ⟨[vI 0,vI 0,vI 0,vI 0,vJ 97,vJ 97]⟩⟩
theorem kAwake62:KAwake62.Ok Try.prog:=CF.of2 noNG mixed (l:=[KAwake61,KAwake30]) (.cons kAwake61 (.cons kAwake30 .nil)) 3000 (by kernel_rfl)
def KAwake63:CF:=⟨119,[.agg wAwake11,.agg ⟨[vI 0,vI 0,vI 0,vI 0,vJ 97,vJ 97]⟩],.agg wAwake12⟩
theorem kAwake63:KAwake63.Ok Try.prog:=CF.of2 noNG mixed (l:=[]) .nil 3000 (by kernel_rfl)
end
end Go.Proofs.Ytggaomgopenkfaa
