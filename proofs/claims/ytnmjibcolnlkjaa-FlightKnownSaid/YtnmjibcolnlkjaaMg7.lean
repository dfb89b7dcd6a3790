/- Part 7 of the texts below the claim. Conditions: none. -/
import Derived.Test.YtnmjibcolnlkjaaMg6
set_option linter.unusedVariables false
set_option linter.unusedSimpArgs false
namespace Go.Proofs.Ytnmjibcolnlkjaa
open Go.Gi Go.RowKit
noncomputable section
set_option maxRecDepth 100000
set_option maxHeartbeats 4000000
def KKnown77:CF:=⟨97,[.agg wKnown5,.agg ⟨[vI 0,vI 0,vI 0,vI 10,vI 10,vI 0,vI 0,vI 0,vI 0,vI 0,vI 0,vI 0,vI 0]⟩],.agg ⟨[vI 0,vI 0,vI 0,vI 0,vI 0,vI 0]⟩⟩
theorem kKnown77:KKnown77.Ok Try.prog:=CF.of2 noNG mixed (l:=[KKnown33,KKnown35,KKnown37]) (.cons kKnown33 (.cons kKnown35 (.cons kKnown37 .nil))) 3000 (by kernel_rfl)
def KKnown78:CF:=⟨55,[lstV wKnown2 0 2 7,.agg ⟨[vI 2706,vI 2706]⟩,.func (.func 57) ⟨[]⟩ ⟨[]⟩],.agg ⟨[vI 300,vI 300,vI 0,vI 0,vI 0,vI 0]⟩⟩
theorem kKnown78:KKnown78.Ok Try.prog:=CF.of2 noNG mixed (l:=[]) .nil 3000 (by kernel_rfl)
def KKnown79:CF:=⟨91,[.agg ⟨[vJ 1,vI 2,vI 0,vI 0,vI 1804,vI 1804]⟩,.func (.func 98) ⟨[]⟩ ⟨[]⟩,.agg ⟨[vI 300,vI 300,vI 0,vI 0,vI 0,vI 0]⟩],.agg ⟨[vJ 301,vJ 297,vI 0,vI 0,vI 1804,vI 1804]⟩⟩
theorem kKnown79:KKnown79.Ok Try.prog:=CF.of2 noNG mixed (l:=[]) .nil 3000 (by kernel_rfl)
def KKnown80:CF:=⟨125,[.agg ⟨[vI 3343220,vI 3345620]⟩],.agg ⟨[vI 1828,vI 1830]⟩⟩
theorem kKnown80:KKnown80.Ok Try.prog:=CF.of2 noNG mixed (l:=[]) .nil 3000 (by kernel_rfl)
def KKnown81:CF:=⟨116,[.agg ⟨[vJ 301,vJ 297,vI 0,vI 0,vI 1804,vI 1804]⟩],.agg ⟨[vI 1828,vI 1830]⟩⟩
theorem kKnown81:KKnown81.Ok Try.prog:=CF.of2 noNG mixed (l:=[KKnown80]) (.cons kKnown80 .nil) 3000 (by kernel_rfl)
def KKnown82:CF:=⟨91,[.agg ⟨[vJ 301,vJ 297,vI 0,vI 0,vI 1804,vI 1804]⟩,.func (.func 111) ⟨[]⟩ ⟨[]⟩,.agg ⟨[vI 0,vI 0,vI 0,vI 0,vI 0,vI 0]⟩],.agg ⟨[vI 0,vI 0,vI 0,vI 0,vI 0,vI 0]⟩⟩
theorem kKnown82:KKnown82.Ok Try.prog:=CF.of2 noNG mixed (l:=[]) .nil 3000 (by kernel_rfl)
def KKnown83:CF:=⟨112,[.agg ⟨[vJ 301,vJ 297,vI 0,vI 0,vI 1804,vI 1804]⟩,.func (.func 111) ⟨[]⟩ ⟨[]⟩,.agg ⟨[vI 0,vI 0]⟩],.agg ⟨[vI 0,vI 0,vI 0,vI 0,vI 0,vI 0]⟩⟩
theorem kKnown83:KKnown83.Ok Try.prog:=CF.of2 noNG mixed (l:=[KKnown82]) (.cons kKnown82 .nil) 3000 (by kernel_rfl)
def KKnown84:CF:=⟨99,[.agg wKnown5,.agg ⟨[vI 0,vI 0,vI 0,vI 10,vI 10,vI 0,vI 0,vI 0,vI 0,vI 0,vI 0,vI 0,vI 0]⟩,.agg wKnown8],.agg ⟨[vI 0,vI 0,vI 0,vI 0,vI 0,vI 0]⟩⟩
theorem kKnown84:KKnown84.Ok Try.prog:=CF.of2 noNG mixed (l:=[KKnown78,KKnown79,KKnown81,KKnown83,KKnown27]) (.cons kKnown78 (.cons kKnown79 (.cons kKnown81 (.cons kKnown83 (.cons kKnown27 .nil))))) 3000 (by kernel_rfl)
def KKnown85:CF:=⟨69,[.agg wKnown5,.agg ⟨[vI 0,vI 0,vI 0,vI 10,vI 10,vI 0,vI 0,vI 0,vI 0,vI 0,vI 0,vI 0,vI 0]⟩,.agg wKnown8],.agg ⟨[vI 0,vI 0,vI 0,vI 0,vJ 97,vJ 97]⟩⟩
theorem kKnown85:KKnown85.Ok Try.prog:=CF.of2 noNG mixed (l:=[KKnown40,KKnown41,KKnown84,KKnown77]) (.cons kKnown40 (.cons kKnown41 (.cons kKnown84 (.cons kKnown77 .nil)))) 3000 (by kernel_rfl)
def KKnown86:CF:=⟨91,[.agg ⟨[vJ 1,vI 2,vI 0,vI 0,vI 1804,vI 1804]⟩,.func (.func 105) ⟨[]⟩ ⟨[]⟩,.agg ⟨[vI 0,vI 0,vI 0,vI 0,vJ 97,vJ 97]⟩],.agg ⟨[vJ 1,vI 2,vI 0,vI 0,vI 1706,vI 1706]⟩⟩
theorem kKnown86:KKnown86.Ok Try.prog:=CF.of2 noNG mixed (l:=[]) .nil 3000 (by kernel_rfl)
def KKnown87:CF:=⟨91,[.agg ⟨[vJ 2,vI 3,vI 0,vI 0,vI 2706,vI 2706]⟩,.func (.func 105) ⟨[]⟩ ⟨[]⟩,.agg ⟨[vJ 1,vI 2,vI 0,vI 0,vI 1706,vI 1706]⟩],.agg ⟨[vJ 4,vI 5,vI 0,vI 0,vI 4412,vI 4412]⟩⟩
theorem kKnown87:KKnown87.Ok Try.prog:=CF.of2 noNG mixed (l:=[]) .nil 3000 (by kernel_rfl)
def KKnown88:CF:=⟨119,[.agg wKnown8,.agg ⟨[vI 0,vI 0,vI 0,vI 0,vJ 97,vJ 97]⟩],.agg wKnown9⟩
theorem kKnown88:KKnown88.Ok Try.prog:=CF.of2 noNG mixed (l:=[KKnown86,KKnown87]) (.cons kKnown86 (.cons kKnown87 .nil)) 3000 (by kernel_rfl)
def KKnown89:CF:=⟨86,[.agg ⟨[vJ 4,vI 5,vI 0,vI 0,vI 4412,vI 4412]⟩,vI 2000000000],vT⟩
theorem kKnown89:KKnown89.Ok Try.prog:=CF.of2 noNG mixed (l:=[]) .nil 3000 (by kernel_rfl)
def KKnown90:CF:=⟨86,[.agg ⟨[vJ 1,vI 2,vI 0,vI 0,vI 1706,vI 1706]⟩,vI 1000000],vT⟩
theorem kKnown90:KKnown90.Ok Try.prog:=CF.of2 noNG mixed (l:=[]) .nil 3000 (by kernel_rfl)
def KKnown91:CF:=⟨68,[.agg wKnown9],vF⟩
theorem kKnown91:KKnown91.Ok Try.prog:=CF.of2 noNG mixed (l:=[KKnown89,KKnown90]) (.cons kKnown89 (.cons kKnown90 .nil)) 3000 (by kernel_rfl)
def KKnown92:CF:=⟨103,[.agg wKnown9],.agg wKnown9⟩
theorem kKnown92:KKnown92.Ok Try.prog:=CF.of2 noNG mixed (l:=[]) .nil 3000 (by kernel_rfl)
def KKnown93:CF:=⟨70,[lstV wKnown0 0 1 13,vI 3],.agg ⟨[vI 0,vI 0,vI 0,vI 10,vI 10,vI 0,vI 0,vI 0,vI 0,vI 0,vI 0,vI 0,vI 0]⟩⟩
theorem kKnown93:KKnown93.Ok Try.prog:=CF.of2 noNG mixed (l:=[]) .nil 3000 (by kernel_rfl)
def KKnown94:CF:=⟨55,[lstV wKnown2 0 2 7,.agg ⟨[vI 4412,vI 4412]⟩,.func (.func 57) ⟨[]⟩ ⟨[]⟩],.agg ⟨[vI 300,vI 300,vI 0,vI 0,vI 0,vI 0]⟩⟩
theorem kKnown94:KKnown94.Ok Try.prog:=CF.of2 noNG mixed (l:=[]) .nil 3000 (by kernel_rfl)
def KKnown95:CF:=⟨91,[.agg ⟨[vJ 1,vI 2,vI 0,vI 0,vI 1706,vI 1706]⟩,.func (.func 98) ⟨[]⟩ ⟨[]⟩,.agg ⟨[vI 300,vI 300,vI 0,vI 0,vI 0,vI 0]⟩],.agg ⟨[vJ 301,vJ 297,vI 0,vI 0,vI 1706,vI 1706]⟩⟩
theorem kKnown95:KKnown95.Ok Try.prog:=CF.of2 noNG mixed (l:=[]) .nil 3000 (by kernel_rfl)
def KKnown96:CF:=⟨125,[.agg ⟨[vI 2999240,vI 3001640]⟩],.agg ⟨[vI 1731,vI 1733]⟩⟩
theorem kKnown96:KKnown96.Ok Try.prog:=CF.of2 noNG mixed (l:=[]) .nil 3000 (by kernel_rfl)
def KKnown97:CF:=⟨116,[.agg ⟨[vJ 301,vJ 297,vI 0,vI 0,vI 1706,vI 1706]⟩],.agg ⟨[vI 1731,vI 1733]⟩⟩
theorem kKnown97:KKnown97.Ok Try.prog:=CF.of2 noNG mixed (l:=[KKnown96]) (.cons kKnown96 .nil) 3000 (by kernel_rfl)
def KKnown98:CF:=⟨91,[.agg ⟨[vJ 301,vJ 297,vI 0,vI 0,vI 1706,vI 1706]⟩,.func (.func 111) ⟨[]⟩ ⟨[]⟩,.agg ⟨[vI 0,vI 0,vI 0,vI 0,vI 0,vI 0]⟩],.agg ⟨[vI 0,vI 0,vI 0,vI 0,vI 0,vI 0]⟩⟩
theorem kKnown98:KKnown98.Ok Try.prog:=CF.of2 noNG mixed (l:=[]) .nil 3000 (by kernel_rfl)
def KKnown99:CF:=⟨112,[.agg ⟨[vJ 301,vJ 297,vI 0,vI 0,vI 1706,vI 1706]⟩,.func (.func 111) ⟨[]⟩ ⟨[]⟩,.agg ⟨[vI 0,vI 0]⟩],.agg ⟨[vI 0,vI 0,vI 0,vI 0,vI 0,vI 0]⟩⟩
theorem kKnown99:KKnown99.Ok Try.prog:=CF.of2 noNG mixed (l:=[KKnown98]) (.cons kKnown98 .nil) 3000 (by kernel_rfl)
def KKnown100:CF:=⟨99,[.agg wKnown5,.agg ⟨[vI 0,vI 0,vI 0,vI 10,vI 10,vI 0,vI 0,vI 0,vI 0,vI 0,vI 0,vI 0,vI 0]⟩,.agg wKnown9],.agg ⟨[vI 0,vI 0,vI 0,vI 0,vI 0,vI 0]⟩⟩
theorem kKnown100:KKnown100.Ok Try.prog:=CF.of2 noNG mixed (l:=[KKnown97,KKnown99,KKnown27,KKnown94,KKnown95]) (.cons kKnown97 (.cons kKnown99 (.cons kKnown27 (.cons kKnown94 (.cons kKnown95 .nil))))) 3000 (by kernel_rfl)
def KKnown101:CF:=⟨69,[.agg wKnown5,.agg ⟨[vI 0,vI 0,vI 0,vI 10,vI 10,vI 0,vI 0,vI 0,vI 0,vI 0,vI 0,vI 0,vI 0]⟩,.agg wKnown9],.agg ⟨[vI 0,vI 0,vI 0,vI 0,vJ 97,vJ 97]⟩⟩
theorem kKnown101:KKnown101.Ok Try.prog:=CF.of2 noNG mixed (l:=[KKnown40,KKnown41,KKnown100,KKnown77]) (.cons kKnown40 (.cons kKnown41 (.cons kKnown100 (.cons kKnown77 .nil)))) 3000 (by kernel_rfl)
def KKnown102:CF:=⟨91,[.agg ⟨[vJ 1,vI 2,vI 0,vI 0,vI 1706,vI 1706]⟩,.func (.func 105) ⟨[]⟩ ⟨[]⟩,.agg ⟨[vI 0,vI 0,vI 0,vI 0,vJ 97,vJ 97]⟩],.agg ⟨[vJ 1,vI 2,vI 0,vI 0,vI 1608,vI 1608]⟩⟩
theorem kKnown102:KKnown102.Ok Try.prog:=CF.of2 noNG mixed (l:=[]) .nil 3000 (by kernel_rfl)
def KKnown103:CF:=⟨91,[.agg ⟨[vJ 4,vI 5,vI 0,vI 0,vI 4412,vI 4412]⟩,.func (.func 105) ⟨[]⟩ ⟨[]⟩,.agg ⟨[vJ 1,vI 2,vI 0,vI 0,vI 1608,vI 1608]⟩],.agg ⟨[vJ 6,vI 7,vI 0,vI 0,vI 6020,vI 6020]⟩⟩
theorem kKnown103:KKnown103.Ok Try.prog:=CF.of2 noNG mixed (l:=[]) .nil 3000 (by kernel_rfl)
def KKnown104:CF:=⟨119,[.agg wKnown9,.agg ⟨[vI 0,vI 0,vI 0,vI 0,vJ 97,vJ 97]⟩],.agg wKnown10⟩
theorem kKnown104:KKnown104.Ok Try.prog:=CF.of2 noNG mixed (l:=[KKnown102,KKnown103]) (.cons kKnown102 (.cons kKnown103 .nil)) 3000 (by kernel_rfl)
def KKnown105:CF:=⟨71,[.func (.func 118) ⟨[]⟩ wKnown6],.tuple ⟨[lstV wKnown11 0 4 12,vI 0]⟩⟩
theorem kKnown105:KKnown105.Ok Try.prog:=CF.of2 noNG mixed (l:=[KKnown13,KKnown49,KKnown50,KKnown53,KKnown55,KKnown58,KKnown59,KKnown60,KKnown68,KKnown71,KKnown74,KKnown75,KKnown76,KKnown85,KKnown88,KKnown91,KKnown92,KKnown93,KKnown101,KKnown104]) (.cons kKnown13 (.cons kKnown49 (.cons kKnown50 (.cons kKnown53 (.cons kKnown55 (.cons kKnown58 (.cons kKnown59 (.cons kKnown60 (.cons kKnown68 (.cons kKnown71 (.cons kKnown74 (.cons kKnown75 (.cons kKnown76 (.cons kKnown85 (.cons kKnown88 (.cons kKnown91 (.cons kKnown92 (.cons kKnown93 (.cons kKnown101 (.cons kKnown104 .nil)))))))))))))))))))) 3000 (by kernel_rfl)
def KKnown106:CF:=⟨27,[.agg wKnown1,.agg ⟨[vI 0,vI 0,vI 10000]⟩,lstV ⟨[vI 0,vI 100000,vI 300,vI 300,vI 0,vI 0]⟩ 0 1 6,vI 3],.tuple ⟨[lstV wKnown11 0 4 12,vI 0]⟩⟩
theorem kKnown106:KKnown106.Ok Try.prog:=CF.of2 noNG mixed (l:=[KKnown48,KKnown105,KKnown10]) (.cons kKnown48 (.cons kKnown105 (.cons kKnown10 .nil))) 3000 (by kernel_rfl)
def KKnown107:CF:=⟨26,[vJ 2,vI 3],.agg ⟨[vJ 2,vI 3]⟩⟩
theorem kKnown107:KKnown107.Ok Try.prog:=CF.of2 noNG mixed (l:=[]) .nil 3000 (by kernel_rfl)
def KKnown108:CF:=⟨26,[vI 2706,vI 2706],.agg ⟨[vI 2706,vI 2706]⟩⟩
theorem kKnown108:KKnown108.Ok Try.prog:=CF.of2 noNG mixed (l:=[]) .nil 3000 (by kernel_rfl)
def KKnown109:CF:=⟨26,[vJ 1,vI 2],.agg ⟨[vJ 1,vI 2]⟩⟩
theorem kKnown109:KKnown109.Ok Try.prog:=CF.of2 noNG mixed (l:=[]) .nil 3000 (by kernel_rfl)
def KKnown110:CF:=⟨26,[vI 1804,vI 1804],.agg ⟨[vI 1804,vI 1804]⟩⟩
theorem kKnown110:KKnown110.Ok Try.prog:=CF.of2 noNG mixed (l:=[]) .nil 3000 (by kernel_rfl)
def KKnown111:CF:=⟨26,[vJ 4,vI 5],.agg ⟨[vJ 4,vI 5]⟩⟩
theorem kKnown111:KKnown111.Ok Try.prog:=CF.of2 noNG mixed (l:=[]) .nil 3000 (by kernel_rfl)
def KKnown112:CF:=⟨26,[vI 4412,vI 4412],.agg ⟨[vI 4412,vI 4412]⟩⟩
theorem kKnown112:KKnown112.Ok Try.prog:=CF.of2 noNG mixed (l:=[]) .nil 3000 (by kernel_rfl)
def KKnown113:CF:=⟨26,[vI 1706,vI 1706],.agg ⟨[vI 1706,vI 1706]⟩⟩
theorem kKnown113:KKnown113.Ok Try.prog:=CF.of2 noNG mixed (l:=[]) .nil 3000 (by kernel_rfl)
def KKnown114:CF:=⟨104,[.agg wKnown3,.agg ⟨[vI 0,vI 0,vI 0,vI 0,vI 0,vI 0,vI 0,vI 0,vI 0,vI 0,vI 0,vI 0]⟩,vI 0,vI 25,.func (.func 70) ⟨[lstV wKnown0 0 1 13]⟩ ⟨[]⟩],.func (.func 118) ⟨[]⟩ wKnown12⟩
theorem kKnown114:KKnown114.Ok Try.prog:=CF.of2 noNG mixed (l:=[]) .nil 3000 (by kernel_rfl)
def KKnown115:CF:=⟨72,[.agg wKnown3,vI 25],.func (.func 118) ⟨[]⟩ wKnown12⟩
theorem kKnown115:KKnown115.Ok Try.prog:=CF.of2 noNG mixed (l:=[KKnown114]) (.cons kKnown114 .nil) 3000 (by kernel_rfl)
def KKnown116:CF:=⟨86,[.agg ⟨[vJ 6,vI 7,vI 0,vI 0,vI 6020,vI 6020]⟩,vI 2000000000],vT⟩
theorem kKnown116:KKnown116.Ok Try.prog:=CF.of2 noNG mixed (l:=[]) .nil 3000 (by kernel_rfl)
def KKnown117:CF:=⟨86,[.agg ⟨[vJ 1,vI 2,vI 0,vI 0,vI 1608,vI 1608]⟩,vI 1000000],vT⟩
theorem kKnown117:KKnown117.Ok Try.prog:=CF.of2 noNG mixed (l:=[]) .nil 3000 (by kernel_rfl)
def KKnown118:CF:=⟨68,[.agg wKnown10],vF⟩
theorem kKnown118:KKnown118.Ok Try.prog:=CF.of2 noNG mixed (l:=[KKnown116,KKnown117]) (.cons kKnown116 (.cons kKnown117 .nil)) 3000 (by kernel_rfl)
def KKnown119:CF:=⟨103,[.agg wKnown10],.agg wKnown10⟩
theorem kKnown119:KKnown119.Ok Try.prog:=CF.of2 noNG mixed (l:=[]) .nil 3000 (by kernel_rfl)
def KKnown120:CF:=⟨70,[lstV wKnown0 0 1 13,vI 4],.agg ⟨[vI 0,vI 0,vI 0,vI 10,vI 10,vI 0,vI 0,vI 0,vI 0,vI 0,vI 0,vI 0,vI 0]⟩⟩
theorem kKnown120:KKnown120.Ok Try.prog:=CF.of2 noNG mixed (l:=[]) .nil 3000 (by kernel_rfl)
def KKnown121:CF:=⟨55,[lstV wKnown2 0 2 7,.agg ⟨[vI 6020,vI 6020]⟩,.func (.func 57) ⟨[]⟩ ⟨[]⟩],.agg ⟨[vI 300,vI 300,vI 0,vI 0,vI 0,vI 0]⟩⟩
theorem kKnown121:KKnown121.Ok Try.prog:=CF.of2 noNG mixed (l:=[]) .nil 3000 (by kernel_rfl)
def KKnown122:CF:=⟨91,[.agg ⟨[vJ 1,vI 2,vI 0,vI 0,vI 1608,vI 1608]⟩,.func (.func 98) ⟨[]⟩ ⟨[]⟩,.agg ⟨[vI 300,vI 300,vI 0,vI 0,vI 0,vI 0]⟩],.agg ⟨[vJ 301,vJ 297,vI 0,vI 0,vI 1608,vI 1608]⟩⟩
theorem kKnown122:KKnown122.Ok Try.prog:=CF.of2 noNG mixed (l:=[]) .nil 3000 (by kernel_rfl)
def KKnown123:CF:=⟨125,[.agg ⟨[vI 2674468,vI 2676868]⟩],.agg ⟨[vI 1635,vI 1637]⟩⟩
theorem kKnown123:KKnown123.Ok Try.prog:=CF.of2 noNG mixed (l:=[]) .nil 3000 (by kernel_rfl)
def KKnown124:CF:=⟨116,[.agg ⟨[vJ 301,vJ 297,vI 0,vI 0,vI 1608,vI 1608]⟩],.agg ⟨[vI 1635,vI 1637]⟩⟩
theorem kKnown124:KKnown124.Ok Try.prog:=CF.of2 noNG mixed (l:=[KKnown123]) (.cons kKnown123 .nil) 3000 (by kernel_rfl)
def KKnown125:CF:=⟨91,[.agg ⟨[vJ 301,vJ 297,vI 0,vI 0,vI 1608,vI 1608]⟩,.func (.func 111) ⟨[]⟩ ⟨[]⟩,.agg ⟨[vI 0,vI 0,vI 0,vI 0,vI 0,vI 0]⟩],.agg ⟨[vI 0,vI 0,vI 0,vI 0,vI 0,vI 0]⟩⟩
theorem kKnown125:KKnown125.Ok Try.prog:=CF.of2 noNG mixed (l:=[]) .nil 3000 (by kernel_rfl)
def KKnown126:CF:=⟨112,[.agg ⟨[vJ 301,vJ 297,vI 0,vI 0,vI 1608,vI 1608]⟩,.func (.func 111) ⟨[]⟩ ⟨[]⟩,.agg ⟨[vI 0,vI 0]⟩],.agg ⟨[vI 0,vI 0,vI 0,vI 0,vI 0,vI 0]⟩⟩
theorem kKnown126:KKnown126.Ok Try.prog:=CF.of2 noNG mixed (l:=[KKnown125]) (.cons kKnown125 .nil) 3000 (by kernel_rfl)
def KKnown127:CF:=⟨99,[.agg wKnown5,.agg ⟨[vI 0,vI 0,vI 0,vI 10,vI 10,vI 0,vI 0,vI 0,vI 0,vI 0,vI 0,vI 0,vI 0]⟩,.agg wKnown10],.agg ⟨[vI 0,vI 0,vI 0,vI 0,vI 0,vI 0]⟩⟩
theorem kKnown127:KKnown127.Ok Try.prog:=CF.of2 noNG mixed (l:=[KKnown121,KKnown122,KKnown27,KKnown124,KKnown126]) (.cons kKnown121 (.cons kKnown122 (.cons kKnown27 (.cons kKnown124 (.cons kKnown126 .nil))))) 3000 (by kernel_rfl)
def KKnown128:CF:=⟨69,[.agg wKnown5,.agg ⟨[vI 0,vI 0,vI 0,vI 10,vI 10,vI 0,vI 0,vI 0,vI 0,vI 0,vI 0,vI 0,vI 0]⟩,.agg wKnown10],.agg ⟨[vI 0,vI 0,vI 0,vI 0,vJ 97,vJ 97]⟩⟩
theorem kKnown128:KKnown128.Ok Try.prog:=CF.of2 noNG mixed (l:=[KKnown40,KKnown41,KKnown77,KKnown127]) (.cons kKnown40 (.cons kKnown41 (.cons kKnown77 (.cons kKnown127 .nil)))) 3000 (by kernel_rfl)
def KKnown129:CF:=⟨91,[.agg ⟨[vJ 1,vI 2,vI 0,vI 0,vI 1608,vI 1608]⟩,.func (.func 105) ⟨[]⟩ ⟨[]⟩,.agg ⟨[vI 0,vI 0,vI 0,vI 0,vJ 97,vJ 97]⟩],.agg ⟨[vJ 1,vI 2,vI 0,vI 0,vI 1510,vI 1510]⟩⟩
theorem kKnown129:KKnown129.Ok Try.prog:=CF.of2 noNG mixed (l:=[]) .nil 3000 (by kernel_rfl)
def KKnown130:CF:=⟨91,[.agg ⟨[vJ 6,vI 7,vI 0,vI 0,vI 6020,vI 6020]⟩,.func (.func 105) ⟨[]⟩ ⟨[]⟩,.agg ⟨[vJ 1,vI 2,vI 0,vI 0,vI 1510,vI 1510]⟩],.agg ⟨[vJ 8,vI 9,vI 0,vI 0,vI 7530,vI 7530]⟩⟩
theorem kKnown130:KKnown130.Ok Try.prog:=CF.of2 noNG mixed (l:=[]) .nil 3000 (by kernel_rfl)
def KKnown131:CF:=⟨119,[.agg wKnown10,.agg ⟨[vI 0,vI 0,vI 0,vI 0,vJ 97,vJ 97]⟩],.agg wKnown13⟩
theorem kKnown131:KKnown131.Ok Try.prog:=CF.of2 noNG mixed (l:=[KKnown129,KKnown130]) (.cons kKnown129 (.cons kKnown130 .nil)) 3000 (by kernel_rfl)
def KKnown132:CF:=⟨86,[.agg ⟨[vJ 8,vI 9,vI 0,vI 0,vI 7530,vI 7530]⟩,vI 2000000000],vT⟩
theorem kKnown132:KKnown132.Ok Try.prog:=CF.of2 noNG mixed (l:=[]) .nil 3000 (by kernel_rfl)
def KKnown133:CF:=⟨86,[.agg ⟨[vJ 1,vI 2,vI 0,vI 0,vI 1510,vI 1510]⟩,vI 1000000],vT⟩
theorem kKnown133:KKnown133.Ok Try.prog:=CF.of2 noNG mixed (l:=[]) .nil 3000 (by kernel_rfl)
def KKnown134:CF:=⟨68,[.agg wKnown13],vF⟩
theorem kKnown134:KKnown134.Ok Try.prog:=CF.of2 noNG mixed (l:=[KKnown132,KKnown133]) (.cons kKnown132 (.cons kKnown133 .nil)) 3000 (by kernel_rfl)
def KKnown135:CF:=⟨103,[.agg wKnown13],.agg wKnown13⟩
theorem kKnown135:KKnown135.Ok Try.prog:=CF.of2 noNG mixed (l:=[]) .nil 3000 (by kernel_rfl)
def KKnown136:CF:=⟨70,[lstV wKnown0 0 1 13,vI 5],.agg ⟨[vI 0,vI 0,vI 0,vI 10,vI 10,vI 0,vI 0,vI 0,vI 0,vI 0,vI 0,vI 0,vI 0]⟩⟩
theorem kKnown136:KKnown136.Ok Try.prog:=CF.of2 noNG mixed (l:=[]) .nil 3000 (by kernel_rfl)
def KKnown137:CF:=⟨55,[lstV wKnown2 0 2 7,.agg ⟨[vI 7530,vI 7530]⟩,.func (.func 57) ⟨[]⟩ ⟨[]⟩],.agg ⟨[vI 300,vI 300,vI 0,vI 0,vI 0,vI 0]⟩⟩
theorem kKnown137:KKnown137.Ok Try.prog:=CF.of2 noNG mixed (l:=[]) .nil 3000 (by kernel_rfl)
def KKnown138:CF:=⟨91,[.agg ⟨[vJ 1,vI 2,vI 0,vI 0,vI 1510,vI 1510]⟩,.func (.func 98) ⟨[]⟩ ⟨[]⟩,.agg ⟨[vI 300,vI 300,vI 0,vI 0,vI 0,vI 0]⟩],.agg ⟨[vJ 301,vJ 297,vI 0,vI 0,vI 1510,vI 1510]⟩⟩
theorem kKnown138:KKnown138.Ok Try.prog:=CF.of2 noNG mixed (l:=[]) .nil 3000 (by kernel_rfl)
def KKnown139:CF:=⟨125,[.agg ⟨[vI 2368904,vI 2371304]⟩],.agg ⟨[vI 1539,vI 1540]⟩⟩
theorem kKnown139:KKnown139.Ok Try.prog:=CF.of2 noNG mixed (l:=[]) .nil 3000 (by kernel_rfl)
def KKnown140:CF:=⟨116,[.agg ⟨[vJ 301,vJ 297,vI 0,vI 0,vI 1510,vI 1510]⟩],.agg ⟨[vI 1539,vI 1540]⟩⟩
theorem kKnown140:KKnown140.Ok Try.prog:=CF.of2 noNG mixed (l:=[KKnown139]) (.cons kKnown139 .nil) 3000 (by kernel_rfl)
def KKnown141:CF:=⟨91,[.agg ⟨[vJ 301,vJ 297,vI 0,vI 0,vI 1510,vI 1510]⟩,.func (.func 111) ⟨[]⟩ ⟨[]⟩,.agg ⟨[vI 0,vI 0,vI 0,vI 0,vI 0,vI 0]⟩],.agg ⟨[vI 0,vI 0,vI 0,vI 0,vI 0,vI 0]⟩⟩
theorem kKnown141:KKnown141.Ok Try.prog:=CF.of2 noNG mixed (l:=[]) .nil 3000 (by kernel_rfl)
def KKnown142:CF:=⟨112,[.agg ⟨[vJ 301,vJ 297,vI 0,vI 0,vI 1510,vI 1510]⟩,.func (.func 111) ⟨[]⟩ ⟨[]⟩,.agg ⟨[vI 0,vI 0]⟩],.agg ⟨[vI 0,vI 0,vI 0,vI 0,vI 0,vI 0]⟩⟩
theorem kKnown142:KKnown142.Ok Try.prog:=CF.of2 noNG mixed (l:=[KKnown141]) (.cons kKnown141 .nil) 3000 (by kernel_rfl)
def KKnown143:CF:=⟨99,[.agg wKnown5,.agg ⟨[vI 0,vI 0,vI 0,vI 10,vI 10,vI 0,vI 0,vI 0,vI 0,vI 0,vI 0,vI 0,vI 0]⟩,.agg wKnown13],.agg ⟨[vI 0,vI 0,vI 0,vI 0,vI 0,vI 0]⟩⟩
theorem kKnown143:KKnown143.Ok Try.prog:=CF.of2 noNG mixed (l:=[KKnown137,KKnown138,KKnown140,KKnown142,KKnown27]) (.cons kKnown137 (.cons kKnown138 (.cons kKnown140 (.cons kKnown142 (.cons kKnown27 .nil))))) 3000 (by kernel_rfl)
def KKnown144:CF:=⟨69,[.agg wKnown5,.agg ⟨[vI 0,vI 0,vI 0,vI 10,vI 10,vI 0,vI 0,vI 0,vI 0,vI 0,vI 0,vI 0,vI 0]⟩,.agg wKnown13],.agg ⟨[vI 0,vI 0,vI 0,vI 0,vJ 97,vJ 97]⟩⟩
theorem kKnown144:KKnown144.Ok Try.prog:=CF.of2 noNG mixed (l:=[KKnown40,KKnown41,KKnown77,KKnown143]) (.cons kKnown40 (.cons kKnown41 (.cons kKnown77 (.cons kKnown143 .nil)))) 3000 (by kernel_rfl)
def KKnown145:CF:=⟨91,[.agg ⟨[vJ 1,vI 2,vI 0,vI 0,vI 1510,vI 1510]⟩,.func (.func 105) ⟨[]⟩ ⟨[]⟩,.agg ⟨[vI 0,vI 0,vI 0,vI 0,vJ 97,vJ 97]⟩],.agg ⟨[vJ 1,vI 2,vI 0,vI 0,vI 1412,vI 1412]⟩⟩
theorem kKnown145:KKnown145.Ok Try.prog:=CF.of2 noNG mixed (l:=[]) .nil 3000 (by kernel_rfl)
def KKnown146:CF:=⟨91,[.agg ⟨[vJ 8,vI 9,vI 0,vI 0,vI 7530,vI 7530]⟩,.func (.func 105) ⟨[]⟩ ⟨[]⟩,.agg ⟨[vJ 1,vI 2,vI 0,vI 0,vI 1412,vI 1412]⟩],.agg ⟨[vJ 10,vI 11,vI 0,vI 0,vI 8942,vI 8942]⟩⟩
theorem kKnown146:KKnown146.Ok Try.prog:=CF.of2 noNG mixed (l:=[]) .nil 3000 (by kernel_rfl)
def KKnown147:CF:=⟨119,[.agg wKnown13,.agg ⟨[vI 0,vI 0,vI 0,vI 0,vJ 97,vJ 97]⟩],.agg wKnown14⟩
theorem kKnown147:KKnown147.Ok Try.prog:=CF.of2 noNG mixed (l:=[KKnown145,KKnown146]) (.cons kKnown145 (.cons kKnown146 .nil)) 3000 (by kernel_rfl)
def KKnown148:CF:=⟨86,[.agg ⟨[vJ 10,vI 11,vI 0,vI 0,vI 8942,vI 8942]⟩,vI 2000000000],vT⟩
theorem kKnown148:KKnown148.Ok Try.prog:=CF.of2 noNG mixed (l:=[]) .nil 3000 (by kernel_rfl)
def KKnown149:CF:=⟨86,[.agg ⟨[vJ 1,vI 2,vI 0,vI 0,vI 1412,vI 1412]⟩,vI 1000000],vT⟩
theorem kKnown149:KKnown149.Ok Try.prog:=CF.of2 noNG mixed (l:=[]) .nil 3000 (by kernel_rfl)
def KKnown150:CF:=⟨68,[.agg wKnown14],vF⟩
theorem kKnown150:KKnown150.Ok Try.prog:=CF.of2 noNG mixed (l:=[KKnown148,KKnown149]) (.cons kKnown148 (.cons kKnown149 .nil)) 3000 (by kernel_rfl)
def KKnown151:CF:=⟨103,[.agg wKnown14],.agg wKnown14⟩
theorem kKnown151:KKnown151.Ok Try.prog:=CF.of2 noNG mixed (l:=[]) .nil 3000 (by kernel_rfl)
def KKnown152:CF:=⟨70,[lstV wKnown0 0 1 13,vI 6],.agg ⟨[vI 0,vI 0,vI 0,vI 10,vI 10,vI 0,vI 0,vI 0,vI 0,vI 0,vI 0,vI 0,vI 0]⟩⟩
theorem kKnown152:KKnown152.Ok Try.prog:=CF.of2 noNG mixed (l:=[]) .nil 3000 (by kernel_rfl)
def KKnown153:CF:=⟨55,[lstV wKnown2 0 2 7,.agg ⟨[vI 8942,vI 8942]⟩,.func (.func 57) ⟨[]⟩ ⟨[]⟩],.agg ⟨[vI 300,vI 300,vI 0,vI 0,vI 0,vI 0]⟩⟩
theorem kKnown153:KKnown153.Ok Try.prog:=CF.of2 noNG mixed (l:=[]) .nil 3000 (by kernel_rfl)
def KKnown154:CF:=⟨91,[.agg ⟨[vJ 1,vI 2,vI 0,vI 0,vI 1412,vI 1412]⟩,.func (.func 98) ⟨[]⟩ ⟨[]⟩,.agg ⟨[vI 300,vI 300,vI 0,vI 0,vI 0,vI 0]⟩],.agg ⟨[vJ 301,vJ 297,vI 0,vI 0,vI 1412,vI 1412]⟩⟩
theorem kKnown154:KKnown154.Ok Try.prog:=CF.of2 noNG mixed (l:=[]) .nil 3000 (by kernel_rfl)
def KKnown155:CF:=⟨125,[.agg ⟨[vI 2082548,vI 2084948]⟩],.agg ⟨[vI 1443,vI 1444]⟩⟩
theorem kKnown155:KKnown155.Ok Try.prog:=CF.of2 noNG mixed (l:=[]) .nil 3000 (by kernel_rfl)
def KKnown156:CF:=⟨116,[.agg ⟨[vJ 301,vJ 297,vI 0,vI 0,vI 1412,vI 1412]⟩],.agg ⟨[vI 1443,vI 1444]⟩⟩
theorem kKnown156:KKnown156.Ok Try.prog:=CF.of2 noNG mixed (l:=[KKnown155]) (.cons kKnown155 .nil) 3000 (by kernel_rfl)
def KKnown157:CF:=⟨91,[.agg ⟨[vJ 301,vJ 297,vI 0,vI 0,vI 1412,vI 1412]⟩,.func (.func 111) ⟨[]⟩ ⟨[]⟩,.agg ⟨[vI 0,vI 0,vI 0,vI 0,vI 0,vI 0]⟩],.agg ⟨[vI 0,vI 0,vI 0,vI 0,vI 0,vI 0]⟩⟩
theorem kKnown157:KKnown157.Ok Try.prog:=CF.of2 noNG mixed (l:=[]) .nil 3000 (by kernel_rfl)
def KKnown158:CF:=⟨112,[.agg ⟨[vJ 301,vJ 297,vI 0,vI 0,vI 1412,vI 1412]⟩,.func (.func 111) ⟨[]⟩ ⟨[]⟩,.agg ⟨[vI 0,vI 0]⟩],.agg ⟨[vI 0,vI 0,vI 0,vI 0,vI 0,vI 0]⟩⟩
theorem kKnown158:KKnown158.Ok Try.prog:=CF.of2 noNG mixed (l:=[KKnown157]) (.cons kKnown157 .nil) 3000 (by kernel_rfl)
def KKnown159:CF:=⟨99,[.agg wKnown5,.agg ⟨[vI 0,vI 0,vI 0,vI 10,vI 10,vI 0,vI 0,vI 0,vI 0,vI 0,vI 0,vI 0,vI 0]⟩,.agg wKnown14],.agg ⟨[vI 0,vI 0,vI 0,vI 0,vI 0,vI 0]⟩⟩
theorem kKnown159:KKnown159.Ok Try.prog:=CF.of2 noNG mixed (l:=[KKnown153,KKnown154,KKnown27,KKnown156,KKnown158]) (.cons kKnown153 (.cons kKnown154 (.cons kKnown27 (.cons kKnown156 (.cons kKnown158 .nil))))) 3000 (by kernel_rfl)
def KKnown160:CF:=⟨69,[.agg wKnown5,.agg ⟨[vI 0,vI 0,vI 0,vI 10,vI 10,vI 0,vI 0,vI 0,vI 0,vI 0,vI 0,vI 0,vI 0]⟩,.agg wKnown14],.agg ⟨[vI 0,vI 0,vI 0,vI 0,vJ 97,vJ 97]⟩⟩
theorem kKnown160:KKnown160.Ok Try.prog:=CF.of2 noNG mixed (l:=[KKnown40,KKnown41,KKnown77,KKnown159]) (.cons kKnown40 (.cons kKnown41 (.cons kKnown77 (.cons kKnown159 .nil)))) 3000 (by kernel_rfl)
def KKnown161:CF:=⟨91,[.agg ⟨[vJ 1,vI 2,vI 0,vI 0,vI 1412,vI 1412]⟩,.func (.func 105) ⟨[]⟩ ⟨[]⟩,.agg ⟨[vI 0,vI 0,vI 0,vI 0,vJ 97,vJ 97]⟩],.agg ⟨[vJ 1,vI 2,vI 0,vI 0,vI 1314,vI 1314]⟩⟩
theorem kKnown161:KKnown161.Ok Try.prog:=CF.of2 noNG mixed (l:=[]) .nil 3000 (by kernel_rfl)
def KKnown162:CF:=⟨91,[.agg ⟨[vJ 10,vI 11,vI 0,vI 0,vI 8942,vI 8942]⟩,.func (.func 105) ⟨[]⟩ ⟨[]⟩,.agg ⟨[vJ 1,vI 2,vI 0,vI 0,vI 1314,vI 1314]⟩],.agg ⟨[vJ 12,vI 13,vI 0,vI 0,vI 10256,vI 10256]⟩⟩
theorem kKnown162:KKnown162.Ok Try.prog:=CF.of2 noNG mixed (l:=[]) .nil 3000 (by kernel_rfl)
def KKnown163:CF:=⟨119,[.agg wKnown14,.agg ⟨[vI 0,vI 0,vI 0,vI 0,vJ 97,vJ 97]⟩],.agg wKnown15⟩
theorem kKnown163:KKnown163.Ok Try.prog:=CF.of2 noNG mixed (l:=[KKnown161,KKnown162]) (.cons kKnown161 (.cons kKnown162 .nil)) 3000 (by kernel_rfl)
def KKnown164:CF:=⟨86,[.agg ⟨[vJ 12,vI 13,vI 0,vI 0,vI 10256,vI 10256]⟩,vI 2000000000],vT⟩
theorem kKnown164:KKnown164.Ok Try.prog:=CF.of2 noNG mixed (l:=[]) .nil 3000 (by kernel_rfl)
def KKnown165:CF:=⟨86,[.agg ⟨[vJ 1,vI 2,vI 0,vI 0,vI 1314,vI 1314]⟩,vI 1000000],vT⟩
theorem kKnown165:KKnown165.Ok Try.prog:=CF.of2 noNG mixed (l:=[]) .nil 3000 (by kernel_rfl)
def KKnown166:CF:=⟨68,[.agg wKnown15],vF⟩
theorem kKnown166:KKnown166.Ok Try.prog:=CF.of2 noNG mixed (l:=[KKnown164,KKnown165]) (.cons kKnown164 (.cons kKnown165 .nil)) 3000 (by kernel_rfl)
def KKnown167:CF:=⟨103,[.agg wKnown15],.agg wKnown15⟩
theorem kKnown167:KKnown167.Ok Try.prog:=CF.of2 noNG mixed (l:=[]) .nil 3000 (by kernel_rfl)
def KKnown168:CF:=⟨70,[lstV wKnown0 0 1 13,vI 7],.agg ⟨[vI 0,vI 0,vI 0,vI 10,vI 10,vI 0,vI 0,vI 0,vI 0,vI 0,vI 0,vI 0,vI 0]⟩⟩
theorem kKnown168:KKnown168.Ok Try.prog:=CF.of2 noNG mixed (l:=[]) .nil 3000 (by kernel_rfl)
def KKnown169:CF:=⟨55,[lstV wKnown2 0 2 7,.agg ⟨[vI 10256,vI 10256]⟩,.func (.func 57) ⟨[]⟩ ⟨[]⟩],.agg ⟨[vI 300,vI 300,vI 0,vI 0,vI 0,vI 0]⟩⟩
theorem kKnown169:KKnown169.Ok Try.prog:=CF.of2 noNG mixed (l:=[]) .nil 3000 (by kernel_rfl)
def KKnown170:CF:=⟨91,[.agg ⟨[vJ 1,vI 2,vI 0,vI 0,vI 1314,vI 1314]⟩,.func (.func 98) ⟨[]⟩ ⟨[]⟩,.agg ⟨[vI 300,vI 300,vI 0,vI 0,vI 0,vI 0]⟩],.agg ⟨[vJ 301,vJ 297,vI 0,vI 0,vI 1314,vI 1314]⟩⟩
theorem kKnown170:KKnown170.Ok Try.prog:=CF.of2 noNG mixed (l:=[]) .nil 3000 (by kernel_rfl)
def KKnown171:CF:=⟨125,[.agg ⟨[vI 1815400,vI 1817800]⟩],.agg ⟨[vI 1347,vI 1349]⟩⟩
theorem kKnown171:KKnown171.Ok Try.prog:=CF.of2 noNG mixed (l:=[]) .nil 3000 (by kernel_rfl)
def KKnown172:CF:=⟨116,[.agg ⟨[vJ 301,vJ 297,vI 0,vI 0,vI 1314,vI 1314]⟩],.agg ⟨[vI 1347,vI 1349]⟩⟩
theorem kKnown172:KKnown172.Ok Try.prog:=CF.of2 noNG mixed (l:=[KKnown171]) (.cons kKnown171 .nil) 3000 (by kernel_rfl)
def KKnown173:CF:=⟨91,[.agg ⟨[vJ 301,vJ 297,vI 0,vI 0,vI 1314,vI 1314]⟩,.func (.func 111) ⟨[]⟩ ⟨[]⟩,.agg ⟨[vI 0,vI 0,vI 0,vI 0,vI 0,vI 0]⟩],.agg ⟨[vI 0,vI 0,vI 0,vI 0,vI 0,vI 0]⟩⟩
theorem kKnown173:KKnown173.Ok Try.prog:=CF.of2 noNG mixed (l:=[]) .nil 3000 (by kernel_rfl)
def KKnown174:CF:=⟨112,[.agg ⟨[vJ 301,vJ 297,vI 0,vI 0,vI 1314,vI 1314]⟩,.func (.func 111) ⟨[]⟩ ⟨[]⟩,.agg ⟨[vI 0,vI 0]⟩],.agg ⟨[vI 0,vI 0,vI 0,vI 0,vI 0,vI 0]⟩⟩
theorem kKnown174:KKnown174.Ok Try.prog:=CF.of2 noNG mixed (l:=[KKnown173]) (.cons kKnown173 .nil) 3000 (by kernel_rfl)
def KKnown175:CF:=⟨99,[.agg wKnown5,.agg ⟨[vI 0,vI 0,vI 0,vI 10,vI 10,vI 0,vI 0,vI 0,vI 0,vI 0,vI 0,vI 0,vI 0]⟩,.agg wKnown15],.agg ⟨[vI 0,vI 0,vI 0,vI 0,vI 0,vI 0]⟩⟩
theorem kKnown175:KKnown175.Ok Try.prog:=CF.of2 noNG mixed (l:=[KKnown169,KKnown170,KKnown172,KKnown174,KKnown27]) (.cons kKnown169 (.cons kKnown170 (.cons kKnown172 (.cons kKnown174 (.cons kKnown27 .nil))))) 3000 (by kernel_rfl)
def KKnown176:CF:=⟨69,[.agg wKnown5,.agg ⟨[vI 0,vI 0,vI 0,vI 10,vI 10,vI 0,vI 0,vI 0,vI 0,vI 0,vI 0,vI 0,vI 0]⟩,.agg wKnown15],.agg ⟨[vI 0,vI 0,vI 0,vI 0,vJ 97,vJ 97]⟩⟩
theorem kKnown176:KKnown176.Ok Try.prog:=CF.of2 noNG mixed (l:=[KKnown40,KKnown41,KKnown77,KKnown175]) (.cons kKnown40 (.cons kKnown41 (.cons kKnown77 (.cons kKnown175 .nil)))) 3000 (by kernel_rfl)
def KKnown177:CF:=⟨91,[.agg ⟨[vJ 1,vI 2,vI 0,vI 0,vI 1314,vI 1314]⟩,.func (.func 105) ⟨[]⟩ ⟨[]⟩,.agg ⟨[vI 0,vI 0,vI 0,vI 0,vJ 97,vJ 97]⟩],.agg ⟨[vJ 1,vI 2,vI 0,vI 0,vI 1216,vI 1216]⟩⟩
theorem kKnown177:KKnown177.Ok Try.prog:=CF.of2 noNG mixed (l:=[]) .nil 3000 (by kernel_rfl)
def KKnown178:CF:=⟨91,[.agg ⟨[vJ 12,vI 13,vI 0,vI 0,vI 10256,vI 10256]⟩,.func (.func 105) ⟨[]⟩ ⟨[]⟩,.agg ⟨[vJ 1,vI 2,vI 0,vI 0,vI 1216,vI 1216]⟩],.agg ⟨[vJ 14,vI 15,vI 0,vI 0,vI 11472,vI 11472]⟩⟩
theorem kKnown178:KKnown178.Ok Try.prog:=CF.of2 noNG mixed (l:=[]) .nil 3000 (by kernel_rfl)
def KKnown179:CF:=⟨119,[.agg wKnown15,.agg ⟨[vI 0,vI 0,vI 0,vI 0,vJ 97,vJ 97]⟩],.agg wKnown16⟩
theorem kKnown179:KKnown179.Ok Try.prog:=CF.of2 noNG mixed (l:=[KKnown177,KKnown178]) (.cons kKnown177 (.cons kKnown178 .nil)) 3000 (by kernel_rfl)
def KKnown180:CF:=⟨86,[.agg ⟨[vJ 14,vI 15,vI 0,vI 0,vI 11472,vI 11472]⟩,vI 2000000000],vT⟩
theorem kKnown180:KKnown180.Ok Try.prog:=CF.of2 noNG mixed (l:=[]) .nil 3000 (by kernel_rfl)
def KKnown181:CF:=⟨86,[.agg ⟨[vJ 1,vI 2,vI 0,vI 0,vI 1216,vI 1216]⟩,vI 1000000],vT⟩
theorem kKnown181:KKnown181.Ok Try.prog:=CF.of2 noNG mixed (l:=[]) .nil 3000 (by kernel_rfl)
def KKnown182:CF:=⟨68,[.agg wKnown16],vF⟩
theorem kKnown182:KKnown182.Ok Try.prog:=CF.of2 noNG mixed (l:=[KKnown180,KKnown181]) (.cons kKnown180 (.cons kKnown181 .nil)) 3000 (by kernel_rfl)
def KKnown183:CF:=⟨103,[.agg wKnown16],.agg wKnown16⟩
theorem kKnown183:KKnown183.Ok Try.prog:=CF.of2 noNG mixed (l:=[]) .nil 3000 (by kernel_rfl)
def KKnown184:CF:=⟨70,[lstV wKnown0 0 1 13,vI 8],.agg ⟨[vI 0,vI 0,vI 0,vI 10,vI 10,vI 0,vI 0,vI 0,vI 0,vI 0,vI 0,vI 0,vI 0]⟩⟩
theorem kKnown184:KKnown184.Ok Try.prog:=CF.of2 noNG mixed (l:=[]) .nil 3000 (by kernel_rfl)
def KKnown185:CF:=⟨55,[lstV wKnown2 0 2 7,.agg ⟨[vI 11472,vI 11472]⟩,.func (.func 57) ⟨[]⟩ ⟨[]⟩],.agg ⟨[vI 300,vI 300,vI 0,vI 0,vI 0,vI 0]⟩⟩
theorem kKnown185:KKnown185.Ok Try.prog:=CF.of2 noNG mixed (l:=[]) .nil 3000 (by kernel_rfl)
def KKnown186:CF:=⟨91,[.agg ⟨[vJ 1,vI 2,vI 0,vI 0,vI 1216,vI 1216]⟩,.func (.func 98) ⟨[]⟩ ⟨[]⟩,.agg ⟨[vI 300,vI 300,vI 0,vI 0,vI 0,vI 0]⟩],.agg ⟨[vJ 301,vJ 297,vI 0,vI 0,vI 1216,vI 1216]⟩⟩
theorem kKnown186:KKnown186.Ok Try.prog:=CF.of2 noNG mixed (l:=[]) .nil 3000 (by kernel_rfl)
def KKnown187:CF:=⟨125,[.agg ⟨[vI 1567460,vI 1569860]⟩],.agg ⟨[vI 1251,vI 1253]⟩⟩
theorem kKnown187:KKnown187.Ok Try.prog:=CF.of2 noNG mixed (l:=[]) .nil 3000 (by kernel_rfl)
def KKnown188:CF:=⟨116,[.agg ⟨[vJ 301,vJ 297,vI 0,vI 0,vI 1216,vI 1216]⟩],.agg ⟨[vI 1251,vI 1253]⟩⟩
theorem kKnown188:KKnown188.Ok Try.prog:=CF.of2 noNG mixed (l:=[KKnown187]) (.cons kKnown187 .nil) 3000 (by kernel_rfl)
def KKnown189:CF:=⟨91,[.agg ⟨[vJ 301,vJ 297,vI 0,vI 0,vI 1216,vI 1216]⟩,.func (.func 111) ⟨[]⟩ ⟨[]⟩,.agg ⟨[vI 0,vI 0,vI 0,vI 0,vI 0,vI 0]⟩],.agg ⟨[vI 0,vI 0,vI 0,vI 0,vI 0,vI 0]⟩⟩
theorem kKnown189:KKnown189.Ok Try.prog:=CF.of2 noNG mixed (l:=[]) .nil 3000 (by kernel_rfl)
def KKnown190:CF:=⟨112,[.agg ⟨[vJ 301,vJ 297,vI 0,vI 0,vI 1216,vI 1216]⟩,.func (.func 111) ⟨[]⟩ ⟨[]⟩,.agg ⟨[vI 0,vI 0]⟩],.agg ⟨[vI 0,vI 0,vI 0,vI 0,vI 0,vI 0]⟩⟩
theorem kKnown190:KKnown190.Ok Try.prog:=CF.of2 noNG mixed (l:=[KKnown189]) (.cons kKnown189 .nil) 3000 (by kernel_rfl)
def KKnown191:CF:=⟨99,[.agg wKnown5,.agg ⟨[vI 0,vI 0,vI 0,vI 10,vI 10,vI 0,vI 0,vI 0,vI 0,vI 0,vI 0,vI 0,vI 0]⟩,.agg wKnown16],.agg ⟨[vI 0,vI 0,vI 0,vI 0,vI 0,vI 0]⟩⟩
theorem kKnown191:KKnown191.Ok Try.prog:=CF.of2 noNG mixed (l:=[KKnown185,KKnown186,KKnown27,KKnown188,KKnown190]) (.cons kKnown185 (.cons kKnown186 (.cons kKnown27 (.cons kKnown188 (.cons kKnown190 .nil))))) 3000 (by kernel_rfl)
def KKnown192:CF:=⟨69,[.agg wKnown5,.agg ⟨[vI 0,vI 0,vI 0,vI 10,vI 10,vI 0,vI 0,vI 0,vI 0,vI 0,vI 0,vI 0,vI 0]⟩,.agg wKnown16],.agg ⟨[vI 0,vI 0,vI 0,vI 0,vJ 97,vJ 97]⟩⟩
theorem kKnown192:KKnown192.Ok Try.prog:=CF.of2 noNG mixed (l:=[KKnown40,KKnown41,KKnown77,KKnown191]) (.cons kKnown40 (.cons kKnown41 (.cons kKnown77 (.cons kKnown191 .nil)))) 3000 (by kernel_rfl)
def KKnown193:CF:=⟨91,[.agg ⟨[vJ 1,vI 2,vI 0,vI 0,vI 1216,vI 1216]⟩,.func (.func 105) ⟨[]⟩ ⟨[]⟩,.agg ⟨[vI 0,vI 0,vI 0,vI 0,vJ 97,vJ 97]⟩],.agg ⟨[vJ 1,vI 2,vI 0,vI 0,vI 1118,vI 1118]⟩⟩
theorem kKnown193:KKnown193.Ok Try.prog:=CF.of2 noNG mixed (l:=[]) .nil 3000 (by kernel_rfl)
def KKnown194:CF:=⟨91,[.agg ⟨[vJ 14,vI 15,vI 0,vI 0,vI 11472,vI 11472]⟩,.func (.func 105) ⟨[]⟩ ⟨[]⟩,.agg ⟨[vJ 1,vI 2,vI 0,vI 0,vI 1118,vI 1118]⟩],.agg ⟨[vJ 16,vI 17,vI 0,vI 0,vI 12590,vI 12590]⟩⟩
theorem kKnown194:KKnown194.Ok Try.prog:=CF.of2 noNG mixed (l:=[]) .nil 3000 (by kernel_rfl)
def KKnown195:CF:=⟨119,[.agg wKnown16,.agg ⟨[vI 0,vI 0,vI 0,vI 0,vJ 97,vJ 97]⟩],.agg wKnown17⟩
theorem kKnown195:KKnown195.Ok Try.prog:=CF.of2 noNG mixed (l:=[KKnown193,KKnown194]) (.cons kKnown193 (.cons kKnown194 .nil)) 3000 (by kernel_rfl)
def KKnown196:CF:=⟨86,[.agg ⟨[vJ 16,vI 17,vI 0,vI 0,vI 12590,vI 12590]⟩,vI 2000000000],vT⟩
theorem kKnown196:KKnown196.Ok Try.prog:=CF.of2 noNG mixed (l:=[]) .nil 3000 (by kernel_rfl)
def KKnown197:CF:=⟨86,[.agg ⟨[vJ 1,vI 2,vI 0,vI 0,vI 1118,vI 1118]⟩,vI 1000000],vT⟩
theorem kKnown197:KKnown197.Ok Try.prog:=CF.of2 noNG mixed (l:=[]) .nil 3000 (by kernel_rfl)
def KKnown198:CF:=⟨68,[.agg wKnown17],vF⟩
theorem kKnown198:KKnown198.Ok Try.prog:=CF.of2 noNG mixed (l:=[KKnown196,KKnown197]) (.cons kKnown196 (.cons kKnown197 .nil)) 3000 (by kernel_rfl)
def KKnown199:CF:=⟨103,[.agg wKnown17],.agg wKnown17⟩
theorem kKnown199:KKnown199.Ok Try.prog:=CF.of2 noNG mixed (l:=[]) .nil 3000 (by kernel_rfl)
def KKnown200:CF:=⟨70,[lstV wKnown0 0 1 13,vI 9],.agg ⟨[vI 0,vI 0,vI 0,vI 10,vI 10,vI 0,vI 0,vI 0,vI 0,vI 0,vI 0,vI 0,vI 0]⟩⟩
theorem kKnown200:KKnown200.Ok Try.prog:=CF.of2 noNG mixed (l:=[]) .nil 3000 (by kernel_rfl)
def KKnown201:CF:=⟨55,[lstV wKnown2 0 2 7,.agg ⟨[vI 12590,vI 12590]⟩,.func (.func 57) ⟨[]⟩ ⟨[]⟩],.agg ⟨[vI 300,vI 300,vI 0,vI 0,vI 0,vI 0]⟩⟩
theorem kKnown201:KKnown201.Ok Try.prog:=CF.of2 noNG mixed (l:=[]) .nil 3000 (by kernel_rfl)
def KKnown202:CF:=⟨91,[.agg ⟨[vJ 1,vI 2,vI 0,vI 0,vI 1118,vI 1118]⟩,.func (.func 98) ⟨[]⟩ ⟨[]⟩,.agg ⟨[vI 300,vI 300,vI 0,vI 0,vI 0,vI 0]⟩],.agg ⟨[vJ 301,vJ 297,vI 0,vI 0,vI 1118,vI 1118]⟩⟩
theorem kKnown202:KKnown202.Ok Try.prog:=CF.of2 noNG mixed (l:=[]) .nil 3000 (by kernel_rfl)
def KKnown203:CF:=⟨125,[.agg ⟨[vI 1338728,vI 1341128]⟩],.agg ⟨[vI 1157,vI 1159]⟩⟩
theorem kKnown203:KKnown203.Ok Try.prog:=CF.of2 noNG mixed (l:=[]) .nil 3000 (by kernel_rfl)
def KKnown204:CF:=⟨116,[.agg ⟨[vJ 301,vJ 297,vI 0,vI 0,vI 1118,vI 1118]⟩],.agg ⟨[vI 1157,vI 1159]⟩⟩
theorem kKnown204:KKnown204.Ok Try.prog:=CF.of2 noNG mixed (l:=[KKnown203]) (.cons kKnown203 .nil) 3000 (by kernel_rfl)
def KKnown205:CF:=⟨91,[.agg ⟨[vJ 301,vJ 297,vI 0,vI 0,vI 1118,vI 1118]⟩,.func (.func 111) ⟨[]⟩ ⟨[]⟩,.agg ⟨[vI 0,vI 0,vI 0,vI 0,vI 0,vI 0]⟩],.agg ⟨[vI 0,vI 0,vI 0,vI 0,vI 0,vI 0]⟩⟩
theorem kKnown205:KKnown205.Ok Try.prog:=CF.of2 noNG mixed (l:=[]) .nil 3000 (by kernel_rfl)
def KKnown206:CF:=⟨112,[.agg ⟨[vJ 301,vJ 297,vI 0,vI 0,vI 1118,vI 1118]⟩,.func (.func 111) ⟨[]⟩ ⟨[]⟩,.agg ⟨[vI 0,vI 0]⟩],.agg ⟨[vI 0,vI 0,vI 0,vI 0,vI 0,vI 0]⟩⟩
theorem kKnown206:KKnown206.Ok Try.prog:=CF.of2 noNG mixed (l:=[KKnown205]) (.cons kKnown205 .nil) 3000 (by kernel_rfl)
def KKnown207:CF:=⟨99,[.agg wKnown5,.agg ⟨[vI 0,vI 0,vI 0,vI 10,vI 10,vI 0,vI 0,vI 0,vI 0,vI 0,vI 0,vI 0,vI 0]⟩,.agg wKnown17],.agg ⟨[vI 0,vI 0,vI 0,vI 0,vI 0,vI 0]⟩⟩
theorem kKnown207:KKnown207.Ok Try.prog:=CF.of2 noNG mixed (l:=[KKnown201,KKnown202,KKnown204,KKnown206,KKnown27]) (.cons kKnown201 (.cons kKnown202 (.cons kKnown204 (.cons kKnown206 (.cons kKnown27 .nil))))) 3000 (by kernel_rfl)
def KKnown208:CF:=⟨69,[.agg wKnown5,.agg ⟨[vI 0,vI 0,vI 0,vI 10,vI 10,vI 0,vI 0,vI 0,vI 0,vI 0,vI 0,vI 0,vI 0]⟩,.agg wKnown17],.agg ⟨[vI 0,vI 0,vI 0,vI 0,vJ 97,vJ 97]⟩⟩
theorem kKnown208:KKnown208.Ok Try.prog:=CF.of2 noNG mixed (l:=[KKnown40,KKnown41,KKnown77,KKnown207]) (.cons kKnown40 (.cons kKnown41 (.cons kKnown77 (.cons kKnown207 .nil)))) 3000 (by kernel_rfl)
def KKnown209:CF:=⟨91,[.agg ⟨[vJ 1,vI 2,vI 0,vI 0,vI 1118,vI 1118]⟩,.func (.func 105) ⟨[]⟩ ⟨[]⟩,.agg ⟨[vI 0,vI 0,vI 0,vI 0,vJ 97,vJ 97]⟩],.agg ⟨[vJ 1,vI 2,vI 0,vI 0,vI 1020,vI 1020]⟩⟩
theorem kKnown209:KKnown209.Ok Try.prog:=CF.of2 noNG mixed (l:=[]) .nil 3000 (by kernel_rfl)
def KKnown210:CF:=⟨91,[.agg ⟨[vJ 16,vI 17,vI 0,vI 0,vI 12590,vI 12590]⟩,.func (.func 105) ⟨[]⟩ ⟨[]⟩,.agg ⟨[vJ 1,vI 2,vI 0,vI 0,vI 1020,vI 1020]⟩],.agg ⟨[vJ 18,vI 19,vI 0,vI 0,vI 13610,vI 13610]⟩⟩
theorem kKnown210:KKnown210.Ok Try.prog:=CF.of2 noNG mixed (l:=[]) .nil 3000 (by kernel_rfl)
def KKnown211:CF:=⟨119,[.agg wKnown17,.agg ⟨[vI 0,vI 0,vI 0,vI 0,vJ 97,vJ 97]⟩],.agg wKnown18⟩
theorem kKnown211:KKnown211.Ok Try.prog:=CF.of2 noNG mixed (l:=[KKnown209,KKnown210]) (.cons kKnown209 (.cons kKnown210 .nil)) 3000 (by kernel_rfl)
def KKnown212:CF:=⟨86,[.agg ⟨[vJ 18,vI 19,vI 0,vI 0,vI 13610,vI 13610]⟩,vI 2000000000],vT⟩
theorem kKnown212:KKnown212.Ok Try.prog:=CF.of2 noNG mixed (l:=[]) .nil 3000 (by kernel_rfl)
def KKnown213:CF:=⟨86,[.agg ⟨[vJ 1,vI 2,vI 0,vI 0,vI 1020,vI 1020]⟩,vI 1000000],vT⟩
theorem kKnown213:KKnown213.Ok Try.prog:=CF.of2 noNG mixed (l:=[]) .nil 3000 (by kernel_rfl)
def KKnown214:CF:=⟨68,[.agg wKnown18],vF⟩
theorem kKnown214:KKnown214.Ok Try.prog:=CF.of2 noNG mixed (l:=[KKnown212,KKnown213]) (.cons kKnown212 (.cons kKnown213 .nil)) 3000 (by kernel_rfl)
def KKnown215:CF:=⟨103,[.agg wKnown18],.agg wKnown18⟩
theorem kKnown215:KKnown215.Ok Try.prog:=CF.of2 noNG mixed (l:=[]) .nil 3000 (by kernel_rfl)
def KKnown216:CF:=⟨70,[lstV wKnown0 0 1 13,vI 10],.agg ⟨[vI 0,vI 0,vI 0,vI 10,vI 10,vI 0,vI 0,vI 0,vI 0,vI 0,vI 0,vI 0,vI 0]⟩⟩
theorem kKnown216:KKnown216.Ok Try.prog:=CF.of2 noNG mixed (l:=[]) .nil 3000 (by kernel_rfl)
def KKnown217:CF:=⟨55,[lstV wKnown2 0 2 7,.agg ⟨[vI 13610,vI 13610]⟩,.func (.func 57) ⟨[]⟩ ⟨[]⟩],.agg ⟨[vI 300,vI 300,vI 0,vI 0,vI 0,vI 0]⟩⟩
theorem kKnown217:KKnown217.Ok Try.prog:=CF.of2 noNG mixed (l:=[]) .nil 3000 (by kernel_rfl)
def KKnown218:CF:=⟨91,[.agg ⟨[vJ 1,vI 2,vI 0,vI 0,vI 1020,vI 1020]⟩,.func (.func 98) ⟨[]⟩ ⟨[]⟩,.agg ⟨[vI 300,vI 300,vI 0,vI 0,vI 0,vI 0]⟩],.agg ⟨[vJ 301,vJ 297,vI 0,vI 0,vI 1020,vI 1020]⟩⟩
theorem kKnown218:KKnown218.Ok Try.prog:=CF.of2 noNG mixed (l:=[]) .nil 3000 (by kernel_rfl)
def KKnown219:CF:=⟨125,[.agg ⟨[vI 1129204,vI 1131604]⟩],.agg ⟨[vI 1062,vI 1064]⟩⟩
theorem kKnown219:KKnown219.Ok Try.prog:=CF.of2 noNG mixed (l:=[]) .nil 3000 (by kernel_rfl)
def KKnown220:CF:=⟨116,[.agg ⟨[vJ 301,vJ 297,vI 0,vI 0,vI 1020,vI 1020]⟩],.agg ⟨[vI 1062,vI 1064]⟩⟩
theorem kKnown220:KKnown220.Ok Try.prog:=CF.of2 noNG mixed (l:=[KKnown219]) (.cons kKnown219 .nil) 3000 (by kernel_rfl)
def KKnown221:CF:=⟨91,[.agg ⟨[vJ 301,vJ 297,vI 0,vI 0,vI 1020,vI 1020]⟩,.func (.func 111) ⟨[]⟩ ⟨[]⟩,.agg ⟨[vI 0,vI 0,vI 0,vI 0,vI 0,vI 0]⟩],.agg ⟨[vI 0,vI 0,vI 0,vI 0,vI 0,vI 0]⟩⟩
theorem kKnown221:KKnown221.Ok Try.prog:=CF.of2 noNG mixed (l:=[]) .nil 3000 (by kernel_rfl)
def KKnown222:CF:=⟨112,[.agg ⟨[vJ 301,vJ 297,vI 0,vI 0,vI 1020,vI 1020]⟩,.func (.func 111) ⟨[]⟩ ⟨[]⟩,.agg ⟨[vI 0,vI 0]⟩],.agg ⟨[vI 0,vI 0,vI 0,vI 0,vI 0,vI 0]⟩⟩
theorem kKnown222:KKnown222.Ok Try.prog:=CF.of2 noNG mixed (l:=[KKnown221]) (.cons kKnown221 .nil) 3000 (by kernel_rfl)
def KKnown223:CF:=⟨99,[.agg wKnown5,.agg ⟨[vI 0,vI 0,vI 0,vI 10,vI 10,vI 0,vI 0,vI 0,vI 0,vI 0,vI 0,vI 0,vI 0]⟩,.agg wKnown18],.agg ⟨[vI 0,vI 0,vI 0,vI 0,vI 0,vI 0]⟩⟩
theorem kKnown223:KKnown223.Ok Try.prog:=CF.of2 noNG mixed (l:=[KKnown217,KKnown218,KKnown27,KKnown220,KKnown222]) (.cons kKnown217 (.cons kKnown218 (.cons kKnown27 (.cons kKnown220 (.cons kKnown222 .nil))))) 3000 (by kernel_rfl)
def KKnown224:CF:=⟨69,[.agg wKnown5,.agg ⟨[vI 0,vI 0,vI 0,vI 10,vI 10,vI 0,vI 0,vI 0,vI 0,vI 0,vI 0,vI 0,vI 0]⟩,.agg wKnown18],.agg ⟨[vI 0,vI 0,vI 0,vI 0,vJ 97,vJ 97]⟩⟩
theorem kKnown224:KKnown224.Ok Try.prog:=CF.of2 noNG mixed (l:=[KKnown40,KKnown41,KKnown77,KKnown223]) (.cons kKnown40 (.cons kKnown41 (.cons kKnown77 (.cons kKnown223 .nil)))) 3000 (by kernel_rfl)
def KKnown225:CF:=⟨91,[.agg ⟨[vJ 1,vI 2,vI 0,vI 0,vI 1020,vI 1020]⟩,.func (.func 105) ⟨[]⟩ ⟨[]⟩,.agg ⟨[vI 0,vI 0,vI 0,vI 0,vJ 97,vJ 97]⟩],.agg ⟨[vJ 1,vI 2,vI 0,vI 0,vI 922,vI 922]⟩⟩
theorem kKnown225:KKnown225.Ok Try.prog:=CF.of2 noNG mixed (l:=[]) .nil 3000 (by kernel_rfl)
def KKnown226:CF:=⟨91,[.agg ⟨[vJ 18,vI 19,vI 0,vI 0,vI 13610,vI 13610]⟩,.func (.func 105) ⟨[]⟩ ⟨[]⟩,.agg ⟨[vJ 1,vI 2,vI 0,vI 0,vI 922,vI 922]⟩],.agg ⟨[vJ 20,vI 21,vI 0,vI 0,vI 14532,vI 14532]⟩⟩
theorem kKnown226:KKnown226.Ok Try.prog:=CF.of2 noNG mixed (l:=[]) .nil 3000 (by kernel_rfl)
def KKnown227:CF:=⟨119,[.agg wKnown18,.agg ⟨[vI 0,vI 0,vI 0,vI 0,vJ 97,vJ 97]⟩],.agg wKnown19⟩
theorem kKnown227:KKnown227.Ok Try.prog:=CF.of2 noNG mixed (l:=[KKnown225,KKnown226]) (.cons kKnown225 (.cons kKnown226 .nil)) 3000 (by kernel_rfl)
def KKnown228:CF:=⟨86,[.agg ⟨[vJ 20,vI 21,vI 0,vI 0,vI 14532,vI 14532]⟩,vI 2000000000],vT⟩
theorem kKnown228:KKnown228.Ok Try.prog:=CF.of2 noNG mixed (l:=[]) .nil 3000 (by kernel_rfl)
def KKnown229:CF:=⟨86,[.agg ⟨[vJ 1,vI 2,vI 0,vI 0,vI 922,vI 922]⟩,vI 1000000],vT⟩
theorem kKnown229:KKnown229.Ok Try.prog:=CF.of2 noNG mixed (l:=[]) .nil 3000 (by kernel_rfl)
def KKnown230:CF:=⟨68,[.agg wKnown19],vF⟩
theorem kKnown230:KKnown230.Ok Try.prog:=CF.of2 noNG mixed (l:=[KKnown228,KKnown229]) (.cons kKnown228 (.cons kKnown229 .nil)) 3000 (by kernel_rfl)
def KKnown231:CF:=⟨103,[.agg wKnown19],.agg wKnown19⟩
theorem kKnown231:KKnown231.Ok Try.prog:=CF.of2 noNG mixed (l:=[]) .nil 3000 (by kernel_rfl)
def KKnown232:CF:=⟨70,[lstV wKnown0 0 1 13,vI 11],.agg ⟨[vI 0,vI 0,vI 0,vI 10,vI 10,vI 0,vI 0,vI 0,vI 0,vI 0,vI 0,vI 0,vI 0]⟩⟩
theorem kKnown232:KKnown232.Ok Try.prog:=CF.of2 noNG mixed (l:=[]) .nil 3000 (by kernel_rfl)
def KKnown233:CF:=⟨55,[lstV wKnown2 0 2 7,.agg ⟨[vI 14532,vI 14532]⟩,.func (.func 57) ⟨[]⟩ ⟨[]⟩],.agg ⟨[vI 300,vI 300,vI 0,vI 0,vI 0,vI 0]⟩⟩
theorem kKnown233:KKnown233.Ok Try.prog:=CF.of2 noNG mixed (l:=[]) .nil 3000 (by kernel_rfl)
def KKnown234:CF:=⟨91,[.agg ⟨[vJ 1,vI 2,vI 0,vI 0,vI 922,vI 922]⟩,.func (.func 98) ⟨[]⟩ ⟨[]⟩,.agg ⟨[vI 300,vI 300,vI 0,vI 0,vI 0,vI 0]⟩],.agg ⟨[vJ 301,vJ 297,vI 0,vI 0,vI 922,vI 922]⟩⟩
theorem kKnown234:KKnown234.Ok Try.prog:=CF.of2 noNG mixed (l:=[]) .nil 3000 (by kernel_rfl)
def KKnown235:CF:=⟨125,[.agg ⟨[vI 938888,vI 941288]⟩],.agg ⟨[vI 968,vI 971]⟩⟩
theorem kKnown235:KKnown235.Ok Try.prog:=CF.of2 noNG mixed (l:=[]) .nil 3000 (by kernel_rfl)
def KKnown236:CF:=⟨116,[.agg ⟨[vJ 301,vJ 297,vI 0,vI 0,vI 922,vI 922]⟩],.agg ⟨[vI 968,vI 971]⟩⟩
theorem kKnown236:KKnown236.Ok Try.prog:=CF.of2 noNG mixed (l:=[KKnown235]) (.cons kKnown235 .nil) 3000 (by kernel_rfl)
def KKnown237:CF:=⟨91,[.agg ⟨[vJ 301,vJ 297,vI 0,vI 0,vI 922,vI 922]⟩,.func (.func 111) ⟨[]⟩ ⟨[]⟩,.agg ⟨[vI 0,vI 0,vI 0,vI 0,vI 0,vI 0]⟩],.agg ⟨[vI 0,vI 0,vI 0,vI 0,vI 0,vI 0]⟩⟩
theorem kKnown237:KKnown237.Ok Try.prog:=CF.of2 noNG mixed (l:=[]) .nil 3000 (by kernel_rfl)
def KKnown238:CF:=⟨112,[.agg ⟨[vJ 301,vJ 297,vI 0,vI 0,vI 922,vI 922]⟩,.func (.func 111) ⟨[]⟩ ⟨[]⟩,.agg ⟨[vI 0,vI 0]⟩],.agg ⟨[vI 0,vI 0,vI 0,vI 0,vI 0,vI 0]⟩⟩
theorem kKnown238:KKnown238.Ok Try.prog:=CF.of2 noNG mixed (l:=[KKnown237]) (.cons kKnown237 .nil) 3000 (by kernel_rfl)
def KKnown239:CF:=⟨99,[.agg wKnown5,.agg ⟨[vI 0,vI 0,vI 0,vI 10,vI 10,vI 0,vI 0,vI 0,vI 0,vI 0,vI 0,vI 0,vI 0]⟩,.agg wKnown19],.agg ⟨[vI 0,vI 0,vI 0,vI 0,vI 0,vI 0]⟩⟩
theorem kKnown239:KKnown239.Ok Try.prog:=CF.of2 noNG mixed (l:=[KKnown233,KKnown234,KKnown236,KKnown238,KKnown27]) (.cons kKnown233 (.cons kKnown234 (.cons kKnown236 (.cons kKnown238 (.cons kKnown27 .nil))))) 3000 (by kernel_rfl)
def KKnown240:CF:=⟨69,[.agg wKnown5,.agg ⟨[vI 0,vI 0,vI 0,vI 10,vI 10,vI 0,vI 0,vI 0,vI 0,vI 0,vI 0,vI 0,vI 0]⟩,.agg wKnown19],.agg ⟨[vI 0,vI 0,vI 0,vI 0,vJ 97,vJ 97]⟩⟩
theorem kKnown240:KKnown240.Ok Try.prog:=CF.of2 noNG mixed (l:=[KKnown40,KKnown41,KKnown77,KKnown239]) (.cons kKnown40 (.cons kKnown41 (.cons kKnown77 (.cons kKnown239 .nil)))) 3000 (by kernel_rfl)
def KKnown241:CF:=⟨91,[.agg ⟨[vJ 1,vI 2,vI 0,vI 0,vI 922,vI 922]⟩,.func (.func 105) ⟨[]⟩ ⟨[]⟩,.agg ⟨[vI 0,vI 0,vI 0,vI 0,vJ 97,vJ 97]⟩],.agg ⟨[vJ 1,vI 2,vI 0,vI 0,vI 824,vI 824]⟩⟩
theorem kKnown241:KKnown241.Ok Try.prog:=CF.of2 noNG mixed (l:=[]) .nil 3000 (by kernel_rfl)
def KKnown242:CF:=⟨91,[.agg ⟨[vJ 20,vI 21,vI 0,vI 0,vI 14532,vI 14532]⟩,.func (.func 105) ⟨[]⟩ ⟨[]⟩,.agg ⟨[vJ 1,vI 2,vI 0,vI 0,vI 824,vI 824]⟩],.agg ⟨[vJ 22,vI 23,vI 0,vI 0,vI 15356,vI 15356]⟩⟩
theorem kKnown242:KKnown242.Ok Try.prog:=CF.of2 noNG mixed (l:=[]) .nil 3000 (by kernel_rfl)
def KKnown243:CF:=⟨119,[.agg wKnown19,.agg ⟨[vI 0,vI 0,vI 0,vI 0,vJ 97,vJ 97]⟩],.agg wKnown20⟩
theorem kKnown243:KKnown243.Ok Try.prog:=CF.of2 noNG mixed (l:=[KKnown241,KKnown242]) (.cons kKnown241 (.cons kKnown242 .nil)) 3000 (by kernel_rfl)
def KKnown244:CF:=⟨86,[.agg ⟨[vJ 22,vI 23,vI 0,vI 0,vI 15356,vI 15356]⟩,vI 2000000000],vT⟩
theorem kKnown244:KKnown244.Ok Try.prog:=CF.of2 noNG mixed (l:=[]) .nil 3000 (by kernel_rfl)
def KKnown245:CF:=⟨86,[.agg ⟨[vJ 1,vI 2,vI 0,vI 0,vI 824,vI 824]⟩,vI 1000000],vT⟩
theorem kKnown245:KKnown245.Ok Try.prog:=CF.of2 noNG mixed (l:=[]) .nil 3000 (by kernel_rfl)
def KKnown246:CF:=⟨68,[.agg wKnown20],vF⟩
theorem kKnown246:KKnown246.Ok Try.prog:=CF.of2 noNG mixed (l:=[KKnown244,KKnown245]) (.cons kKnown244 (.cons kKnown245 .nil)) 3000 (by kernel_rfl)
def KKnown247:CF:=⟨103,[.agg wKnown20],.agg wKnown20⟩
theorem kKnown247:KKnown247.Ok Try.prog:=CF.of2 noNG mixed (l:=[]) .nil 3000 (by kernel_rfl)
def KKnown248:CF:=⟨70,[lstV wKnown0 0 1 13,vI 12],.agg ⟨[vI 0,vI 0,vI 0,vI 10,vI 10,vI 0,vI 0,vI 0,vI 0,vI 0,vI 0,vI 0,vI 0]⟩⟩
theorem kKnown248:KKnown248.Ok Try.prog:=CF.of2 noNG mixed (l:=[]) .nil 3000 (by kernel_rfl)
def KKnown249:CF:=⟨55,[lstV wKnown2 0 2 7,.agg ⟨[vI 15356,vI 15356]⟩,.func (.func 57) ⟨[]⟩ ⟨[]⟩],.agg ⟨[vI 300,vI 300,vI 0,vI 0,vI 0,vI 0]⟩⟩
theorem kKnown249:KKnown249.Ok Try.prog:=CF.of2 noNG mixed (l:=[]) .nil 3000 (by kernel_rfl)
def KKnown250:CF:=⟨91,[.agg ⟨[vJ 1,vI 2,vI 0,vI 0,vI 824,vI 824]⟩,.func (.func 98) ⟨[]⟩ ⟨[]⟩,.agg ⟨[vI 300,vI 300,vI 0,vI 0,vI 0,vI 0]⟩],.agg ⟨[vJ 301,vJ 297,vI 0,vI 0,vI 824,vI 824]⟩⟩
theorem kKnown250:KKnown250.Ok Try.prog:=CF.of2 noNG mixed (l:=[]) .nil 3000 (by kernel_rfl)
def KKnown251:CF:=⟨125,[.agg ⟨[vI 767780,vI 770180]⟩],.agg ⟨[vI 876,vI 878]⟩⟩
theorem kKnown251:KKnown251.Ok Try.prog:=CF.of2 noNG mixed (l:=[]) .nil 3000 (by kernel_rfl)
def KKnown252:CF:=⟨116,[.agg ⟨[vJ 301,vJ 297,vI 0,vI 0,vI 824,vI 824]⟩],.agg ⟨[vI 876,vI 878]⟩⟩
theorem kKnown252:KKnown252.Ok Try.prog:=CF.of2 noNG mixed (l:=[KKnown251]) (.cons kKnown251 .nil) 3000 (by kernel_rfl)
def KKnown253:CF:=⟨91,[.agg ⟨[vJ 301,vJ 297,vI 0,vI 0,vI 824,vI 824]⟩,.func (.func 111) ⟨[]⟩ ⟨[]⟩,.agg ⟨[vI 0,vI 0,vI 0,vI 0,vI 0,vI 0]⟩],.agg ⟨[vI 0,vI 0,vI 0,vI 0,vI 0,vI 0]⟩⟩
theorem kKnown253:KKnown253.Ok Try.prog:=CF.of2 noNG mixed (l:=[]) .nil 3000 (by kernel_rfl)
def KKnown254:CF:=⟨112,[.agg ⟨[vJ 301,vJ 297,vI 0,vI 0,vI 824,vI 824]⟩,.func (.func 111) ⟨[]⟩ ⟨[]⟩,.agg ⟨[vI 0,vI 0]⟩],.agg ⟨[vI 0,vI 0,vI 0,vI 0,vI 0,vI 0]⟩⟩
theorem kKnown254:KKnown254.Ok Try.prog:=CF.of2 noNG mixed (l:=[KKnown253]) (.cons kKnown253 .nil) 3000 (by kernel_rfl)
def KKnown255:CF:=⟨99,[.agg wKnown5,.agg ⟨[vI 0,vI 0,vI 0,vI 10,vI 10,vI 0,vI 0,vI 0,vI 0,vI 0,vI 0,vI 0,vI 0]⟩,.agg wKnown20],.agg ⟨[vI 0,vI 0,vI 0,vI 0,vI 0,vI 0]⟩⟩
theorem kKnown255:KKnown255.Ok Try.prog:=CF.of2 noNG mixed (l:=[KKnown249,KKnown250,KKnown27,KKnown252,KKnown254]) (.cons kKnown249 (.cons kKnown250 (.cons kKnown27 (.cons kKnown252 (.cons kKnown254 .nil))))) 3000 (by kernel_rfl)
def KKnown256:CF:=⟨69,[.agg wKnown5,.agg ⟨[vI 0,vI 0,vI 0,vI 10,vI 10,vI 0,vI 0,vI 0,vI 0,vI 0,vI 0,vI 0,vI 0]⟩,.agg wKnown20],.agg ⟨[vI 0,vI 0,vI 0,vI 0,vJ 97,vJ 97]⟩⟩
theorem kKnown256:KKnown256.Ok Try.prog:=CF.of2 noNG mixed (l:=[KKnown40,KKnown41,KKnown77,KKnown255]) (.cons kKnown40 (.cons kKnown41 (.cons kKnown77 (.cons kKnown255 .nil)))) 3000 (by kernel_rfl)
def KKnown257:CF:=⟨91,[.agg ⟨[vJ 1,vI 2,vI 0,vI 0,vI 824,vI 824]⟩,.func (.func 105) ⟨[]⟩ ⟨[]⟩,.agg ⟨[vI 0,vI 0,vI 0,vI 0,vJ 97,vJ 97]⟩],.agg ⟨[vJ 1,vI 2,vI 0,vI 0,vI 726,vI 726]⟩⟩
theorem kKnown257:KKnown257.Ok Try.prog:=CF.of2 noNG mixed (l:=[]) .nil 3000 (by kernel_rfl)
def KKnown258:CF:=⟨91,[.agg ⟨[vJ 22,vI 23,vI 0,vI 0,vI 15356,vI 15356]⟩,.func (.func 105) ⟨[]⟩ ⟨[]⟩,.agg ⟨[vJ 1,vI 2,vI 0,vI 0,vI 726,vI 726]⟩],.agg ⟨[vJ 24,vI 25,vI 0,vI 0,vI 16082,vI 16082]⟩⟩
theorem kKnown258:KKnown258.Ok Try.prog:=CF.of2 noNG mixed (l:=[]) .nil 3000 (by kernel_rfl)
def KKnown259:CF:=⟨119,[.agg wKnown20,.agg ⟨[vI 0,vI 0,vI 0,vI 0,vJ 97,vJ 97]⟩],.agg wKnown21⟩
theorem kKnown259:KKnown259.Ok Try.prog:=CF.of2 noNG mixed (l:=[KKnown257,KKnown258]) (.cons kKnown257 (.cons kKnown258 .nil)) 3000 (by kernel_rfl)
def KKnown260:CF:=⟨86,[.agg ⟨[vJ 24,vI 25,vI 0,vI 0,vI 16082,vI 16082]⟩,vI 2000000000],vT⟩
theorem kKnown260:KKnown260.Ok Try.prog:=CF.of2 noNG mixed (l:=[]) .nil 3000 (by kernel_rfl)
def KKnown261:CF:=⟨86,[.agg ⟨[vJ 1,vI 2,vI 0,vI 0,vI 726,vI 726]⟩,vI 1000000],vT⟩
theorem kKnown261:KKnown261.Ok Try.prog:=CF.of2 noNG mixed (l:=[]) .nil 3000 (by kernel_rfl)
def KKnown262:CF:=⟨68,[.agg wKnown21],vF⟩
theorem kKnown262:KKnown262.Ok Try.prog:=CF.of2 noNG mixed (l:=[KKnown260,KKnown261]) (.cons kKnown260 (.cons kKnown261 .nil)) 3000 (by kernel_rfl)
def KKnown263:CF:=⟨103,[.agg wKnown21],.agg wKnown21⟩
theorem kKnown263:KKnown263.Ok Try.prog:=CF.of2 noNG mixed (l:=[]) .nil 3000 (by kernel_rfl)
def KKnown264:CF:=⟨70,[lstV wKnown0 0 1 13,vI 13],.agg ⟨[vI 0,vI 0,vI 0,vI 10,vI 10,vI 0,vI 0,vI 0,vI 0,vI 0,vI 0,vI 0,vI 0]⟩⟩
theorem kKnown264:KKnown264.Ok Try.prog:=CF.of2 noNG mixed (l:=[]) .nil 3000 (by kernel_rfl)
def KKnown265:CF:=⟨55,[lstV wKnown2 0 2 7,.agg ⟨[vI 16082,vI 16082]⟩,.func (.func 57) ⟨[]⟩ ⟨[]⟩],.agg ⟨[vI 300,vI 300,vI 0,vI 0,vI 0,vI 0]⟩⟩
theorem kKnown265:KKnown265.Ok Try.prog:=CF.of2 noNG mixed (l:=[]) .nil 3000 (by kernel_rfl)
def KKnown266:CF:=⟨91,[.agg ⟨[vJ 1,vI 2,vI 0,vI 0,vI 726,vI 726]⟩,.func (.func 98) ⟨[]⟩ ⟨[]⟩,.agg ⟨[vI 300,vI 300,vI 0,vI 0,vI 0,vI 0]⟩],.agg ⟨[vJ 301,vJ 297,vI 0,vI 0,vI 726,vI 726]⟩⟩
theorem kKnown266:KKnown266.Ok Try.prog:=CF.of2 noNG mixed (l:=[]) .nil 3000 (by kernel_rfl)
def KKnown267:CF:=⟨125,[.agg ⟨[vI 615880,vI 618280]⟩],.agg ⟨[vI 784,vI 787]⟩⟩
theorem kKnown267:KKnown267.Ok Try.prog:=CF.of2 noNG mixed (l:=[]) .nil 3000 (by kernel_rfl)
def KKnown268:CF:=⟨116,[.agg ⟨[vJ 301,vJ 297,vI 0,vI 0,vI 726,vI 726]⟩],.agg ⟨[vI 784,vI 787]⟩⟩
theorem kKnown268:KKnown268.Ok Try.prog:=CF.of2 noNG mixed (l:=[KKnown267]) (.cons kKnown267 .nil) 3000 (by kernel_rfl)
def KKnown269:CF:=⟨91,[.agg ⟨[vJ 301,vJ 297,vI 0,vI 0,vI 726,vI 726]⟩,.func (.func 111) ⟨[]⟩ ⟨[]⟩,.agg ⟨[vI 0,vI 0,vI 0,vI 0,vI 0,vI 0]⟩],.agg ⟨[vI 0,vI 0,vI 0,vI 0,vI 0,vI 0]⟩⟩
theorem kKnown269:KKnown269.Ok Try.prog:=CF.of2 noNG mixed (l:=[]) .nil 3000 (by kernel_rfl)
def KKnown270:CF:=⟨112,[.agg ⟨[vJ 301,vJ 297,vI 0,vI 0,vI 726,vI 726]⟩,.func (.func 111) ⟨[]⟩ ⟨[]⟩,.agg ⟨[vI 0,vI 0]⟩],.agg ⟨[vI 0,vI 0,vI 0,vI 0,vI 0,vI 0]⟩⟩
theorem kKnown270:KKnown270.Ok Try.prog:=CF.of2 noNG mixed (l:=[KKnown269]) (.cons kKnown269 .nil) 3000 (by kernel_rfl)
def KKnown271:CF:=⟨99,[.agg wKnown5,.agg ⟨[vI 0,vI 0,vI 0,vI 10,vI 10,vI 0,vI 0,vI 0,vI 0,vI 0,vI 0,vI 0,vI 0]⟩,.agg wKnown21],.agg ⟨[vI 0,vI 0,vI 0,vI 0,vI 0,vI 0]⟩⟩
theorem kKnown271:KKnown271.Ok Try.prog:=CF.of2 noNG mixed (l:=[KKnown265,KKnown266,KKnown268,KKnown270,KKnown27]) (.cons kKnown265 (.cons kKnown266 (.cons kKnown268 (.cons kKnown270 (.cons kKnown27 .nil))))) 3000 (by kernel_rfl)
def KKnown272:CF:=⟨69,[.agg wKnown5,.agg ⟨[vI 0,vI 0,vI 0,vI 10,vI 10,vI 0,vI 0,vI 0,vI 0,vI 0,vI 0,vI 0,vI 0]⟩,.agg wKnown21],.agg ⟨[vI 0,vI 0,vI 0,vI 0,vJ 97,vJ 97]⟩⟩
theorem kKnown272:KKnown272.Ok Try.prog:=CF.of2 noNG mixed (l:=[KKnown40,KKnown41,KKnown77,KKnown271]) (.cons kKnown40 (.cons kKnown41 (.cons kKnown77 (.cons kKnown271 .nil)))) 3000 (by kernel_rfl)
def KKnown273:CF:=⟨91,[.agg ⟨[vJ 1,vI 2,vI 0,vI 0,vI 726,vI 726]⟩,.func (.func 105) ⟨[]⟩ ⟨[]⟩,.agg ⟨[vI 0,vI 0,vI 0,vI 0,vJ 97,vJ 97]⟩],.agg ⟨[vJ 1,vI 2,vI 0,vI 0,vI 628,vI 628]⟩⟩
theorem kKnown273:KKnown273.Ok Try.prog:=CF.of2 noNG mixed (l:=[]) .nil 3000 (by kernel_rfl)
def KKnown274:CF:=⟨91,[.agg ⟨[vJ 24,vI 25,vI 0,vI 0,vI 16082,vI 16082]⟩,.func (.func 105) ⟨[]⟩ ⟨[]⟩,.agg ⟨[vJ 1,vI 2,vI 0,vI 0,vI 628,vI 628]⟩],.agg ⟨[vJ 26,vI 27,vI 0,vI 0,vI 16710,vI 16710]⟩⟩
theorem kKnown274:KKnown274.Ok Try.prog:=CF.of2 noNG mixed (l:=[]) .nil 3000 (by kernel_rfl)
def KKnown275:CF:=⟨119,[.agg wKnown21,.agg ⟨[vI 0,vI 0,vI 0,vI 0,vJ 97,vJ 97]⟩],.agg wKnown22⟩
theorem kKnown275:KKnown275.Ok Try.prog:=CF.of2 noNG mixed (l:=[KKnown273,KKnown274]) (.cons kKnown273 (.cons kKnown274 .nil)) 3000 (by kernel_rfl)
def KKnown276:CF:=⟨86,[.agg ⟨[vJ 26,vI 27,vI 0,vI 0,vI 16710,vI 16710]⟩,vI 2000000000],vT⟩
theorem kKnown276:KKnown276.Ok Try.prog:=CF.of2 noNG mixed (l:=[]) .nil 3000 (by kernel_rfl)
def KKnown277:CF:=⟨86,[.agg ⟨[vJ 1,vI 2,vI 0,vI 0,vI 628,vI 628]⟩,vI 1000000],vT⟩
theorem kKnown277:KKnown277.Ok Try.prog:=CF.of2 noNG mixed (l:=[]) .nil 3000 (by kernel_rfl)
def KKnown278:CF:=⟨68,[.agg wKnown22],vF⟩
theorem kKnown278:KKnown278.Ok Try.prog:=CF.of2 noNG mixed (l:=[KKnown276,KKnown277]) (.cons kKnown276 (.cons kKnown277 .nil)) 3000 (by kernel_rfl)
def KKnown279:CF:=⟨103,[.agg wKnown22],.agg wKnown22⟩
theorem kKnown279:KKnown279.Ok Try.prog:=CF.of2 noNG mixed (l:=[]) .nil 3000 (by kernel_rfl)
def KKnown280:CF:=⟨70,[lstV wKnown0 0 1 13,vI 14],.agg ⟨[vI 0,vI 0,vI 0,vI 10,vI 10,vI 0,vI 0,vI 0,vI 0,vI 0,vI 0,vI 0,vI 0]⟩⟩
theorem kKnown280:KKnown280.Ok Try.prog:=CF.of2 noNG mixed (l:=[]) .nil 3000 (by kernel_rfl)
def KKnown281:CF:=⟨55,[lstV wKnown2 0 2 7,.agg ⟨[vI 16710,vI 16710]⟩,.func (.func 57) ⟨[]⟩ ⟨[]⟩],.agg ⟨[vI 300,vI 300,vI 0,vI 0,vI 0,vI 0]⟩⟩
theorem kKnown281:KKnown281.Ok Try.prog:=CF.of2 noNG mixed (l:=[]) .nil 3000 (by kernel_rfl)
def KKnown282:CF:=⟨91,[.agg ⟨[vJ 1,vI 2,vI 0,vI 0,vI 628,vI 628]⟩,.func (.func 98) ⟨[]⟩ ⟨[]⟩,.agg ⟨[vI 300,vI 300,vI 0,vI 0,vI 0,vI 0]⟩],.agg ⟨[vJ 301,vJ 297,vI 0,vI 0,vI 628,vI 628]⟩⟩
theorem kKnown282:KKnown282.Ok Try.prog:=CF.of2 noNG mixed (l:=[]) .nil 3000 (by kernel_rfl)
def KKnown283:CF:=⟨125,[.agg ⟨[vI 483188,vI 485588]⟩],.agg ⟨[vI 695,vI 697]⟩⟩
theorem kKnown283:KKnown283.Ok Try.prog:=CF.of2 noNG mixed (l:=[]) .nil 3000 (by kernel_rfl)
def KKnown284:CF:=⟨116,[.agg ⟨[vJ 301,vJ 297,vI 0,vI 0,vI 628,vI 628]⟩],.agg ⟨[vI 695,vI 697]⟩⟩
theorem kKnown284:KKnown284.Ok Try.prog:=CF.of2 noNG mixed (l:=[KKnown283]) (.cons kKnown283 .nil) 3000 (by kernel_rfl)
def KKnown285:CF:=⟨91,[.agg ⟨[vJ 301,vJ 297,vI 0,vI 0,vI 628,vI 628]⟩,.func (.func 111) ⟨[]⟩ ⟨[]⟩,.agg ⟨[vI 0,vI 0,vI 0,vI 0,vI 0,vI 0]⟩],.agg ⟨[vI 0,vI 0,vI 0,vI 0,vI 0,vI 0]⟩⟩
theorem kKnown285:KKnown285.Ok Try.prog:=CF.of2 noNG mixed (l:=[]) .nil 3000 (by kernel_rfl)
def KKnown286:CF:=⟨112,[.agg ⟨[vJ 301,vJ 297,vI 0,vI 0,vI 628,vI 628]⟩,.func (.func 111) ⟨[]⟩ ⟨[]⟩,.agg ⟨[vI 0,vI 0]⟩],.agg ⟨[vI 0,vI 0,vI 0,vI 0,vI 0,vI 0]⟩⟩
theorem kKnown286:KKnown286.Ok Try.prog:=CF.of2 noNG mixed (l:=[KKnown285]) (.cons kKnown285 .nil) 3000 (by kernel_rfl)
def KKnown287:CF:=⟨99,[.agg wKnown5,.agg ⟨[vI 0,vI 0,vI 0,vI 10,vI 10,vI 0,vI 0,vI 0,vI 0,vI 0,vI 0,vI 0,vI 0]⟩,.agg wKnown22],.agg ⟨[vI 0,vI 0,vI 0,vI 0,vI 0,vI 0]⟩⟩
theorem kKnown287:KKnown287.Ok Try.prog:=CF.of2 noNG mixed (l:=[KKnown281,KKnown282,KKnown27,KKnown284,KKnown286]) (.cons kKnown281 (.cons kKnown282 (.cons kKnown27 (.cons kKnown284 (.cons kKnown286 .nil))))) 3000 (by kernel_rfl)
def KKnown288:CF:=⟨69,[.agg wKnown5,.agg ⟨[vI 0,vI 0,vI 0,vI 10,vI 10,vI 0,vI 0,vI 0,vI 0,vI 0,vI 0,vI 0,vI 0]⟩,.agg wKnown22],.agg ⟨[vI 0,vI 0,vI 0,vI 0,vJ 97,vJ 97]⟩⟩
theorem kKnown288:KKnown288.Ok Try.prog:=CF.of2 noNG mixed (l:=[KKnown40,KKnown41,KKnown77,KKnown287]) (.cons kKnown40 (.cons kKnown41 (.cons kKnown77 (.cons kKnown287 .nil)))) 3000 (by kernel_rfl)
def KKnown289:CF:=⟨91,[.agg ⟨[vJ 1,vI 2,vI 0,vI 0,vI 628,vI 628]⟩,.func (.func 105) ⟨[]⟩ ⟨[]⟩,.agg ⟨[vI 0,vI 0,vI 0,vI 0,vJ 97,vJ 97]⟩],.agg ⟨[vJ 1,vI 2,vI 0,vI 0,vI 530,vI 530]⟩⟩
theorem kKnown289:KKnown289.Ok Try.prog:=CF.of2 noNG mixed (l:=[]) .nil 3000 (by kernel_rfl)
def KKnown290:CF:=⟨91,[.agg ⟨[vJ 26,vI 27,vI 0,vI 0,vI 16710,vI 16710]⟩,.func (.func 105) ⟨[]⟩ ⟨[]⟩,.agg ⟨[vJ 1,vI 2,vI 0,vI 0,vI 530,vI 530]⟩],.agg ⟨[vJ 28,vI 29,vI 0,vI 0,vI 17240,vI 17240]⟩⟩
theorem kKnown290:KKnown290.Ok Try.prog:=CF.of2 noNG mixed (l:=[]) .nil 3000 (by kernel_rfl)
def KKnown291:CF:=⟨119,[.agg wKnown22,.agg ⟨[vI 0,vI 0,vI 0,vI 0,vJ 97,vJ 97]⟩],.agg wKnown23⟩
theorem kKnown291:KKnown291.Ok Try.prog:=CF.of2 noNG mixed (l:=[KKnown289,KKnown290]) (.cons kKnown289 (.cons kKnown290 .nil)) 3000 (by kernel_rfl)
def KKnown292:CF:=⟨86,[.agg ⟨[vJ 28,vI 29,vI 0,vI 0,vI 17240,vI 17240]⟩,vI 2000000000],vT⟩
theorem kKnown292:KKnown292.Ok Try.prog:=CF.of2 noNG mixed (l:=[]) .nil 3000 (by kernel_rfl)
def KKnown293:CF:=⟨86,[.agg ⟨[vJ 1,vI 2,vI 0,vI 0,vI 530,vI 530]⟩,vI 1000000],vT⟩
theorem kKnown293:KKnown293.Ok Try.prog:=CF.of2 noNG mixed (l:=[]) .nil 3000 (by kernel_rfl)
def KKnown294:CF:=⟨68,[.agg wKnown23],vF⟩
theorem kKnown294:KKnown294.Ok Try.prog:=CF.of2 noNG mixed (l:=[KKnown292,KKnown293]) (.cons kKnown292 (.cons kKnown293 .nil)) 3000 (by kernel_rfl)
def KKnown295:CF:=⟨103,[.agg wKnown23],.agg wKnown23⟩
theorem kKnown295:KKnown295.Ok Try.prog:=CF.of2 noNG mixed (l:=[]) .nil 3000 (by kernel_rfl)
def KKnown296:CF:=⟨70,[lstV wKnown0 0 1 13,vI 15],.agg ⟨[vI 0,vI 0,vI 0,vI 10,vI 10,vI 0,vI 0,vI 0,vI 0,vI 0,vI 0,vI 0,vI 0]⟩⟩
theorem kKnown296:KKnown296.Ok Try.prog:=CF.of2 noNG mixed (l:=[]) .nil 3000 (by kernel_rfl)
def KKnown297:CF:=⟨55,[lstV wKnown2 0 2 7,.agg ⟨[vI 17240,vI 17240]⟩,.func (.func 57) ⟨[]⟩ ⟨[]⟩],.agg ⟨[vI 300,vI 300,vI 0,vI 0,vI 0,vI 0]⟩⟩
theorem kKnown297:KKnown297.Ok Try.prog:=CF.of2 noNG mixed (l:=[]) .nil 3000 (by kernel_rfl)
def KKnown298:CF:=⟨91,[.agg ⟨[vJ 1,vI 2,vI 0,vI 0,vI 530,vI 530]⟩,.func (.func 98) ⟨[]⟩ ⟨[]⟩,.agg ⟨[vI 300,vI 300,vI 0,vI 0,vI 0,vI 0]⟩],.agg ⟨[vJ 301,vJ 297,vI 0,vI 0,vI 530,vI 530]⟩⟩
theorem kKnown298:KKnown298.Ok Try.prog:=CF.of2 noNG mixed (l:=[]) .nil 3000 (by kernel_rfl)
def KKnown299:CF:=⟨125,[.agg ⟨[vI 369704,vI 372104]⟩],.agg ⟨[vI 608,vI 611]⟩⟩
theorem kKnown299:KKnown299.Ok Try.prog:=CF.of2 noNG mixed (l:=[]) .nil 3000 (by kernel_rfl)
def KKnown300:CF:=⟨116,[.agg ⟨[vJ 301,vJ 297,vI 0,vI 0,vI 530,vI 530]⟩],.agg ⟨[vI 608,vI 611]⟩⟩
theorem kKnown300:KKnown300.Ok Try.prog:=CF.of2 noNG mixed (l:=[KKnown299]) (.cons kKnown299 .nil) 3000 (by kernel_rfl)
def KKnown301:CF:=⟨91,[.agg ⟨[vJ 301,vJ 297,vI 0,vI 0,vI 530,vI 530]⟩,.func (.func 111) ⟨[]⟩ ⟨[]⟩,.agg ⟨[vI 0,vI 0,vI 0,vI 0,vI 0,vI 0]⟩],.agg ⟨[vI 0,vI 0,vI 0,vI 0,vI 0,vI 0]⟩⟩
theorem kKnown301:KKnown301.Ok Try.prog:=CF.of2 noNG mixed (l:=[]) .nil 3000 (by kernel_rfl)
def KKnown302:CF:=⟨112,[.agg ⟨[vJ 301,vJ 297,vI 0,vI 0,vI 530,vI 530]⟩,.func (.func 111) ⟨[]⟩ ⟨[]⟩,.agg ⟨[vI 0,vI 0]⟩],.agg ⟨[vI 0,vI 0,vI 0,vI 0,vI 0,vI 0]⟩⟩
theorem kKnown302:KKnown302.Ok Try.prog:=CF.of2 noNG mixed (l:=[KKnown301]) (.cons kKnown301 .nil) 3000 (by kernel_rfl)
def KKnown303:CF:=⟨99,[.agg wKnown5,.agg ⟨[vI 0,vI 0,vI 0,vI 10,vI 10,vI 0,vI 0,vI 0,vI 0,vI 0,vI 0,vI 0,vI 0]⟩,.agg wKnown23],.agg ⟨[vI 0,vI 0,vI 0,vI 0,vI 0,vI 0]⟩⟩
theorem kKnown303:KKnown303.Ok Try.prog:=CF.of2 noNG mixed (l:=[KKnown297,KKnown298,KKnown300,KKnown302,KKnown27]) (.cons kKnown297 (.cons kKnown298 (.cons kKnown300 (.cons kKnown302 (.cons kKnown27 .nil))))) 3000 (by kernel_rfl)
def KKnown304:CF:=⟨69,[.agg wKnown5,.agg ⟨[vI 0,vI 0,vI 0,vI 10,vI 10,vI 0,vI 0,vI 0,vI 0,vI 0,vI 0,vI 0,vI 0]⟩,.agg wKnown23],.agg ⟨[vI 0,vI 0,vI 0,vI 0,vJ 97,vJ 97]⟩⟩
theorem kKnown304:KKnown304.Ok Try.prog:=CF.of2 noNG mixed (l:=[KKnown40,KKnown41,KKnown77,KKnown303]) (.cons kKnown40 (.cons kKnown41 (.cons kKnown77 (.cons kKnown303 .nil)))) 3000 (by kernel_rfl)
def KKnown305:CF:=⟨91,[.agg ⟨[vJ 1,vI 2,vI 0,vI 0,vI 530,vI 530]⟩,.func (.func 105) ⟨[]⟩ ⟨[]⟩,.agg ⟨[vI 0,vI 0,vI 0,vI 0,vJ 97,vJ 97]⟩],.agg ⟨[vJ 1,vI 2,vI 0,vI 0,vI 432,vI 432]⟩⟩
theorem kKnown305:KKnown305.Ok Try.prog:=CF.of2 noNG mixed (l:=[]) .nil 3000 (by kernel_rfl)
def KKnown306:CF:=⟨91,[.agg ⟨[vJ 28,vI 29,vI 0,vI 0,vI 17240,vI 17240]⟩,.func (.func 105) ⟨[]⟩ ⟨[]⟩,.agg ⟨[vJ 1,vI 2,vI 0,vI 0,vI 432,vI 432]⟩],.agg ⟨[vJ 30,vI 31,vI 0,vI 0,vI 17672,vI 17672]⟩⟩
theorem kKnown306:KKnown306.Ok Try.prog:=CF.of2 noNG mixed (l:=[]) .nil 3000 (by kernel_rfl)
def KKnown307:CF:=⟨119,[.agg wKnown23,.agg ⟨[vI 0,vI 0,vI 0,vI 0,vJ 97,vJ 97]⟩],.agg wKnown24⟩
theorem kKnown307:KKnown307.Ok Try.prog:=CF.of2 noNG mixed (l:=[KKnown305,KKnown306]) (.cons kKnown305 (.cons kKnown306 .nil)) 3000 (by kernel_rfl)
def KKnown308:CF:=⟨86,[.agg ⟨[vJ 30,vI 31,vI 0,vI 0,vI 17672,vI 17672]⟩,vI 2000000000],vT⟩
theorem kKnown308:KKnown308.Ok Try.prog:=CF.of2 noNG mixed (l:=[]) .nil 3000 (by kernel_rfl)
def KKnown309:CF:=⟨86,[.agg ⟨[vJ 1,vI 2,vI 0,vI 0,vI 432,vI 432]⟩,vI 1000000],vT⟩
theorem kKnown309:KKnown309.Ok Try.prog:=CF.of2 noNG mixed (l:=[]) .nil 3000 (by kernel_rfl)
def KKnown310:CF:=⟨68,[.agg wKnown24],vF⟩
theorem kKnown310:KKnown310.Ok Try.prog:=CF.of2 noNG mixed (l:=[KKnown308,KKnown309]) (.cons kKnown308 (.cons kKnown309 .nil)) 3000 (by kernel_rfl)
def KKnown311:CF:=⟨103,[.agg wKnown24],.agg wKnown24⟩
theorem kKnown311:KKnown311.Ok Try.prog:=CF.of2 noNG mixed (l:=[]) .nil 3000 (by kernel_rfl)
def KKnown312:CF:=⟨70,[lstV wKnown0 0 1 13,vI 16],.agg ⟨[vI 0,vI 0,vI 0,vI 10,vI 10,vI 0,vI 0,vI 0,vI 0,vI 0,vI 0,vI 0,vI 0]⟩⟩
theorem kKnown312:KKnown312.Ok Try.prog:=CF.of2 noNG mixed (l:=[]) .nil 3000 (by kernel_rfl)
def KKnown313:CF:=⟨55,[lstV wKnown2 0 2 7,.agg ⟨[vI 17672,vI 17672]⟩,.func (.func 57) ⟨[]⟩ ⟨[]⟩],.agg ⟨[vI 300,vI 300,vI 0,vI 0,vI 0,vI 0]⟩⟩
theorem kKnown313:KKnown313.Ok Try.prog:=CF.of2 noNG mixed (l:=[]) .nil 3000 (by kernel_rfl)
def KKnown314:CF:=⟨91,[.agg ⟨[vJ 1,vI 2,vI 0,vI 0,vI 432,vI 432]⟩,.func (.func 98) ⟨[]⟩ ⟨[]⟩,.agg ⟨[vI 300,vI 300,vI 0,vI 0,vI 0,vI 0]⟩],.agg ⟨[vJ 301,vJ 297,vI 0,vI 0,vI 432,vI 432]⟩⟩
theorem kKnown314:KKnown314.Ok Try.prog:=CF.of2 noNG mixed (l:=[]) .nil 3000 (by kernel_rfl)
def KKnown315:CF:=⟨125,[.agg ⟨[vI 275428,vI 277828]⟩],.agg ⟨[vI 524,vI 528]⟩⟩
theorem kKnown315:KKnown315.Ok Try.prog:=CF.of2 noNG mixed (l:=[]) .nil 3000 (by kernel_rfl)
def KKnown316:CF:=⟨116,[.agg ⟨[vJ 301,vJ 297,vI 0,vI 0,vI 432,vI 432]⟩],.agg ⟨[vI 524,vI 528]⟩⟩
theorem kKnown316:KKnown316.Ok Try.prog:=CF.of2 noNG mixed (l:=[KKnown315]) (.cons kKnown315 .nil) 3000 (by kernel_rfl)
def KKnown317:CF:=⟨91,[.agg ⟨[vJ 301,vJ 297,vI 0,vI 0,vI 432,vI 432]⟩,.func (.func 111) ⟨[]⟩ ⟨[]⟩,.agg ⟨[vI 0,vI 0,vI 0,vI 0,vI 0,vI 0]⟩],.agg ⟨[vI 0,vI 0,vI 0,vI 0,vI 0,vI 0]⟩⟩
theorem kKnown317:KKnown317.Ok Try.prog:=CF.of2 noNG mixed (l:=[]) .nil 3000 (by kernel_rfl)
def KKnown318:CF:=⟨112,[.agg ⟨[vJ 301,vJ 297,vI 0,vI 0,vI 432,vI 432]⟩,.func (.func 111) ⟨[]⟩ ⟨[]⟩,.agg ⟨[vI 0,vI 0]⟩],.agg ⟨[vI 0,vI 0,vI 0,vI 0,vI 0,vI 0]⟩⟩
theorem kKnown318:KKnown318.Ok Try.prog:=CF.of2 noNG mixed (l:=[KKnown317]) (.cons kKnown317 .nil) 3000 (by kernel_rfl)
def KKnown319:CF:=⟨99,[.agg wKnown5,.agg ⟨[vI 0,vI 0,vI 0,vI 10,vI 10,vI 0,vI 0,vI 0,vI 0,vI 0,vI 0,vI 0,vI 0]⟩,.agg wKnown24],.agg ⟨[vI 0,vI 0,vI 0,vI 0,vI 0,vI 0]⟩⟩
theorem kKnown319:KKnown319.Ok Try.prog:=CF.of2 noNG mixed (l:=[KKnown313,KKnown314,KKnown27,KKnown316,KKnown318]) (.cons kKnown313 (.cons kKnown314 (.cons kKnown27 (.cons kKnown316 (.cons kKnown318 .nil))))) 3000 (by kernel_rfl)
def KKnown320:CF:=⟨69,[.agg wKnown5,.agg ⟨[vI 0,vI 0,vI 0,vI 10,vI 10,vI 0,vI 0,vI 0,vI 0,vI 0,vI 0,vI 0,vI 0]⟩,.agg wKnown24],.agg ⟨[vI 0,vI 0,vI 0,vI 0,vJ 97,vJ 97]⟩⟩
theorem kKnown320:KKnown320.Ok Try.prog:=CF.of2 noNG mixed (l:=[KKnown40,KKnown41,KKnown77,KKnown319]) (.cons kKnown40 (.cons kKnown41 (.cons kKnown77 (.cons kKnown319 .nil)))) 3000 (by kernel_rfl)
def KKnown321:CF:=⟨91,[.agg ⟨[vJ 1,vI 2,vI 0,vI 0,vI 432,vI 432]⟩,.func (.func 105) ⟨[]⟩ ⟨[]⟩,.agg ⟨[vI 0,vI 0,vI 0,vI 0,vJ 97,vJ 97]⟩],.agg ⟨[vJ 1,vI 2,vI 0,vI 0,vI 334,vI 334]⟩⟩
theorem kKnown321:KKnown321.Ok Try.prog:=CF.of2 noNG mixed (l:=[]) .nil 3000 (by kernel_rfl)
def KKnown322:CF:=⟨91,[.agg ⟨[vJ 30,vI 31,vI 0,vI 0,vI 17672,vI 17672]⟩,.func (.func 105) ⟨[]⟩ ⟨[]⟩,.agg ⟨[vJ 1,vI 2,vI 0,vI 0,vI 334,vI 334]⟩],.agg ⟨[vJ 32,vI 33,vI 0,vI 0,vI 18006,vI 18006]⟩⟩
theorem kKnown322:KKnown322.Ok Try.prog:=CF.of2 noNG mixed (l:=[]) .nil 3000 (by kernel_rfl)
def KKnown323:CF:=⟨119,[.agg wKnown24,.agg ⟨[vI 0,vI 0,vI 0,vI 0,vJ 97,vJ 97]⟩],.agg wKnown25⟩
theorem kKnown323:KKnown323.Ok Try.prog:=CF.of2 noNG mixed (l:=[KKnown321,KKnown322]) (.cons kKnown321 (.cons kKnown322 .nil)) 3000 (by kernel_rfl)
def KKnown324:CF:=⟨86,[.agg ⟨[vJ 32,vI 33,vI 0,vI 0,vI 18006,vI 18006]⟩,vI 2000000000],vT⟩
theorem kKnown324:KKnown324.Ok Try.prog:=CF.of2 noNG mixed (l:=[]) .nil 3000 (by kernel_rfl)
def KKnown325:CF:=⟨86,[.agg ⟨[vJ 1,vI 2,vI 0,vI 0,vI 334,vI 334]⟩,vI 1000000],vT⟩
theorem kKnown325:KKnown325.Ok Try.prog:=CF.of2 noNG mixed (l:=[]) .nil 3000 (by kernel_rfl)
def KKnown326:CF:=⟨68,[.agg wKnown25],vF⟩
theorem kKnown326:KKnown326.Ok Try.prog:=CF.of2 noNG mixed (l:=[KKnown324,KKnown325]) (.cons kKnown324 (.cons kKnown325 .nil)) 3000 (by kernel_rfl)
def KKnown327:CF:=⟨103,[.agg wKnown25],.agg wKnown25⟩
theorem kKnown327:KKnown327.Ok Try.prog:=CF.of2 noNG mixed (l:=[]) .nil 3000 (by kernel_rfl)
def KKnown328:CF:=⟨70,[lstV wKnown0 0 1 13,vI 17],.agg ⟨[vI 0,vI 0,vI 0,vI 10,vI 10,vI 0,vI 0,vI 0,vI 0,vI 0,vI 0,vI 0,vI 0]⟩⟩
theorem kKnown328:KKnown328.Ok Try.prog:=CF.of2 noNG mixed (l:=[]) .nil 3000 (by kernel_rfl)
def KKnown329:CF:=⟨55,[lstV wKnown2 0 2 7,.agg ⟨[vI 18006,vI 18006]⟩,.func (.func 57) ⟨[]⟩ ⟨[]⟩],.agg ⟨[vI 300,vI 300,vI 0,vI 0,vI 0,vI 0]⟩⟩
theorem kKnown329:KKnown329.Ok Try.prog:=CF.of2 noNG mixed (l:=[]) .nil 3000 (by kernel_rfl)
def KKnown330:CF:=⟨91,[.agg ⟨[vJ 1,vI 2,vI 0,vI 0,vI 334,vI 334]⟩,.func (.func 98) ⟨[]⟩ ⟨[]⟩,.agg ⟨[vI 300,vI 300,vI 0,vI 0,vI 0,vI 0]⟩],.agg ⟨[vJ 301,vJ 297,vI 0,vI 0,vI 334,vI 334]⟩⟩
theorem kKnown330:KKnown330.Ok Try.prog:=CF.of2 noNG mixed (l:=[]) .nil 3000 (by kernel_rfl)
def KKnown331:CF:=⟨125,[.agg ⟨[vI 200360,vI 202760]⟩],.agg ⟨[vI 447,vI 451]⟩⟩
theorem kKnown331:KKnown331.Ok Try.prog:=CF.of2 noNG mixed (l:=[]) .nil 3000 (by kernel_rfl)
def KKnown332:CF:=⟨116,[.agg ⟨[vJ 301,vJ 297,vI 0,vI 0,vI 334,vI 334]⟩],.agg ⟨[vI 447,vI 451]⟩⟩
theorem kKnown332:KKnown332.Ok Try.prog:=CF.of2 noNG mixed (l:=[KKnown331]) (.cons kKnown331 .nil) 3000 (by kernel_rfl)
def KKnown333:CF:=⟨91,[.agg ⟨[vJ 301,vJ 297,vI 0,vI 0,vI 334,vI 334]⟩,.func (.func 111) ⟨[]⟩ ⟨[]⟩,.agg ⟨[vI 0,vI 0,vI 0,vI 0,vI 0,vI 0]⟩],.agg ⟨[vI 0,vI 0,vI 0,vI 0,vI 0,vI 0]⟩⟩
theorem kKnown333:KKnown333.Ok Try.prog:=CF.of2 noNG mixed (l:=[]) .nil 3000 (by kernel_rfl)
def KKnown334:CF:=⟨112,[.agg ⟨[vJ 301,vJ 297,vI 0,vI 0,vI 334,vI 334]⟩,.func (.func 111) ⟨[]⟩ ⟨[]⟩,.agg ⟨[vI 0,vI 0]⟩],.agg ⟨[vI 0,vI 0,vI 0,vI 0,vI 0,vI 0]⟩⟩
theorem kKnown334:KKnown334.Ok Try.prog:=CF.of2 noNG mixed (l:=[KKnown333]) (.cons kKnown333 .nil) 3000 (by kernel_rfl)
def KKnown335:CF:=⟨99,[.agg wKnown5,.agg ⟨[vI 0,vI 0,vI 0,vI 10,vI 10,vI 0,vI 0,vI 0,vI 0,vI 0,vI 0,vI 0,vI 0]⟩,.agg wKnown25],.agg ⟨[vI 0,vI 0,vI 0,vI 0,vI 0,vI 0]⟩⟩
theorem kKnown335:KKnown335.Ok Try.prog:=CF.of2 noNG mixed (l:=[KKnown329,KKnown330,KKnown332,KKnown334,KKnown27]) (.cons kKnown329 (.cons kKnown330 (.cons kKnown332 (.cons kKnown334 (.cons kKnown27 .nil))))) 3000 (by kernel_rfl)
def KKnown336:CF:=⟨69,[.agg wKnown5,.agg ⟨[vI 0,vI 0,vI 0,vI 10,vI 10,vI 0,vI 0,vI 0,vI 0,vI 0,vI 0,vI 0,vI 0]⟩,.agg wKnown25],.agg ⟨[vI 0,vI 0,vI 0,vI 0,vJ 97,vJ 97]⟩⟩
theorem kKnown336:KKnown336.Ok Try.prog:=CF.of2 noNG mixed (l:=[KKnown40,KKnown41,KKnown77,KKnown335]) (.cons kKnown40 (.cons kKnown41 (.cons kKnown77 (.cons kKnown335 .nil)))) 3000 (by kernel_rfl)
def KKnown337:CF:=⟨91,[.agg ⟨[vJ 1,vI 2,vI 0,vI 0,vI 334,vI 334]⟩,.func (.func 105) ⟨[]⟩ ⟨[]⟩,.agg ⟨[vI 0,vI 0,vI 0,vI 0,vJ 97,vJ 97]⟩],.agg ⟨[vJ 1,vI 2,vI 0,vI 0,vI 236,vI 236]⟩⟩
theorem kKnown337:KKnown337.Ok Try.prog:=CF.of2 noNG mixed (l:=[]) .nil 3000 (by kernel_rfl)
def KKnown338:CF:=⟨91,[.agg ⟨[vJ 32,vI 33,vI 0,vI 0,vI 18006,vI 18006]⟩,.func (.func 105) ⟨[]⟩ ⟨[]⟩,.agg ⟨[vJ 1,vI 2,vI 0,vI 0,vI 236,vI 236]⟩],.agg ⟨[vJ 34,vI 35,vI 0,vI 0,vI 18242,vI 18242]⟩⟩
theorem kKnown338:KKnown338.Ok Try.prog:=CF.of2 noNG mixed (l:=[]) .nil 3000 (by kernel_rfl)
def KKnown339:CF:=⟨119,[.agg wKnown25,.agg ⟨[vI 0,vI 0,vI 0,vI 0,vJ 97,vJ 97]⟩],.agg wKnown26⟩
theorem kKnown339:KKnown339.Ok Try.prog:=CF.of2 noNG mixed (l:=[KKnown337,KKnown338]) (.cons kKnown337 (.cons kKnown338 .nil)) 3000 (by kernel_rfl)
def KKnown340:CF:=⟨86,[.agg ⟨[vJ 34,vI 35,vI 0,vI 0,vI 18242,vI 18242]⟩,vI 2000000000],vT⟩
theorem kKnown340:KKnown340.Ok Try.prog:=CF.of2 noNG mixed (l:=[]) .nil 3000 (by kernel_rfl)
def KKnown341:CF:=⟨86,[.agg ⟨[vJ 1,vI 2,vI 0,vI 0,vI 236,vI 236]⟩,vI 1000000],vT⟩
theorem kKnown341:KKnown341.Ok Try.prog:=CF.of2 noNG mixed (l:=[]) .nil 3000 (by kernel_rfl)
def KKnown342:CF:=⟨68,[.agg wKnown26],vF⟩
theorem kKnown342:KKnown342.Ok Try.prog:=CF.of2 noNG mixed (l:=[KKnown340,KKnown341]) (.cons kKnown340 (.cons kKnown341 .nil)) 3000 (by kernel_rfl)
def KKnown343:CF:=⟨103,[.agg wKnown26],.agg wKnown26⟩
theorem kKnown343:KKnown343.Ok Try.prog:=CF.of2 noNG mixed (l:=[]) .nil 3000 (by kernel_rfl)
def KKnown344:CF:=⟨70,[lstV wKnown0 0 1 13,vI 18],.agg ⟨[vI 0,vI 0,vI 0,vI 10,vI 10,vI 0,vI 0,vI 0,vI 0,vI 0,vI 0,vI 0,vI 0]⟩⟩
theorem kKnown344:KKnown344.Ok Try.prog:=CF.of2 noNG mixed (l:=[]) .nil 3000 (by kernel_rfl)
def KKnown345:CF:=⟨55,[lstV wKnown2 0 2 7,.agg ⟨[vI 18242,vI 18242]⟩,.func (.func 57) ⟨[]⟩ ⟨[]⟩],.agg ⟨[vI 300,vI 300,vI 0,vI 0,vI 0,vI 0]⟩⟩
theorem kKnown345:KKnown345.Ok Try.prog:=CF.of2 noNG mixed (l:=[]) .nil 3000 (by kernel_rfl)
def KKnown346:CF:=⟨91,[.agg ⟨[vJ 1,vI 2,vI 0,vI 0,vI 236,vI 236]⟩,.func (.func 98) ⟨[]⟩ ⟨[]⟩,.agg ⟨[vI 300,vI 300,vI 0,vI 0,vI 0,vI 0]⟩],.agg ⟨[vJ 301,vJ 297,vI 0,vI 0,vI 236,vI 236]⟩⟩
theorem kKnown346:KKnown346.Ok Try.prog:=CF.of2 noNG mixed (l:=[]) .nil 3000 (by kernel_rfl)
def KKnown347:CF:=⟨125,[.agg ⟨[vI 144500,vI 146900]⟩],.agg ⟨[vI 380,vI 384]⟩⟩
theorem kKnown347:KKnown347.Ok Try.prog:=CF.of2 noNG mixed (l:=[]) .nil 3000 (by kernel_rfl)
def KKnown348:CF:=⟨116,[.agg ⟨[vJ 301,vJ 297,vI 0,vI 0,vI 236,vI 236]⟩],.agg ⟨[vI 380,vI 384]⟩⟩
theorem kKnown348:KKnown348.Ok Try.prog:=CF.of2 noNG mixed (l:=[KKnown347]) (.cons kKnown347 .nil) 3000 (by kernel_rfl)
def KKnown349:CF:=⟨91,[.agg ⟨[vJ 301,vJ 297,vI 0,vI 0,vI 236,vI 236]⟩,.func (.func 111) ⟨[]⟩ ⟨[]⟩,.agg ⟨[vI 0,vI 0,vI 0,vI 0,vI 0,vI 0]⟩],.agg ⟨[vI 0,vI 0,vI 0,vI 0,vI 0,vI 0]⟩⟩
theorem kKnown349:KKnown349.Ok Try.prog:=CF.of2 noNG mixed (l:=[]) .nil 3000 (by kernel_rfl)
def KKnown350:CF:=⟨112,[.agg ⟨[vJ 301,vJ 297,vI 0,vI 0,vI 236,vI 236]⟩,.func (.func 111) ⟨[]⟩ ⟨[]⟩,.agg ⟨[vI 0,vI 0]⟩],.agg ⟨[vI 0,vI 0,vI 0,vI 0,vI 0,vI 0]⟩⟩
theorem kKnown350:KKnown350.Ok Try.prog:=CF.of2 noNG mixed (l:=[KKnown349]) (.cons kKnown349 .nil) 3000 (by kernel_rfl)
def KKnown351:CF:=⟨99,[.agg wKnown5,.agg ⟨[vI 0,vI 0,vI 0,vI 10,vI 10,vI 0,vI 0,vI 0,vI 0,vI 0,vI 0,vI 0,vI 0]⟩,.agg wKnown26],.agg ⟨[vI 0,vI 0,vI 0,vI 0,vI 0,vI 0]⟩⟩
theorem kKnown351:KKnown351.Ok Try.prog:=CF.of2 noNG mixed (l:=[KKnown345,KKnown346,KKnown27,KKnown348,KKnown350]) (.cons kKnown345 (.cons kKnown346 (.cons kKnown27 (.cons kKnown348 (.cons kKnown350 .nil))))) 3000 (by kernel_rfl)
def KKnown352:CF:=⟨69,[.agg wKnown5,.agg ⟨[vI 0,vI 0,vI 0,vI 10,vI 10,vI 0,vI 0,vI 0,vI 0,vI 0,vI 0,vI 0,vI 0]⟩,.agg wKnown26],.agg ⟨[vI 0,vI 0,vI 0,vI 0,vJ 97,vJ 97]⟩⟩
theorem kKnown352:KKnown352.Ok Try.prog:=CF.of2 noNG mixed (l:=[KKnown40,KKnown41,KKnown77,KKnown351]) (.cons kKnown40 (.cons kKnown41 (.cons kKnown77 (.cons kKnown351 .nil)))) 3000 (by kernel_rfl)
def KKnown353:CF:=⟨91,[.agg ⟨[vJ 1,vI 2,vI 0,vI 0,vI 236,vI 236]⟩,.func (.func 105) ⟨[]⟩ ⟨[]⟩,.agg ⟨[vI 0,vI 0,vI 0,vI 0,vJ 97,vJ 97]⟩],.agg ⟨[vJ 1,vI 2,vI 0,vI 0,vI 138,vI 138]⟩⟩
theorem kKnown353:KKnown353.Ok Try.prog:=CF.of2 noNG mixed (l:=[]) .nil 3000 (by kernel_rfl)
def KKnown354:CF:=⟨91,[.agg ⟨[vJ 34,vI 35,vI 0,vI 0,vI 18242,vI 18242]⟩,.func (.func 105) ⟨[]⟩ ⟨[]⟩,.agg ⟨[vJ 1,vI 2,vI 0,vI 0,vI 138,vI 138]⟩],.agg ⟨[vJ 36,vI 37,vI 0,vI 0,vI 18380,vI 18380]⟩⟩
theorem kKnown354:KKnown354.Ok Try.prog:=CF.of2 noNG mixed (l:=[]) .nil 3000 (by kernel_rfl)
def KKnown355:CF:=⟨119,[.agg wKnown26,.agg ⟨[vI 0,vI 0,vI 0,vI 0,vJ 97,vJ 97]⟩],.agg wKnown27⟩
theorem kKnown355:KKnown355.Ok Try.prog:=CF.of2 noNG mixed (l:=[KKnown353,KKnown354]) (.cons kKnown353 (.cons kKnown354 .nil)) 3000 (by kernel_rfl)
def KKnown356:CF:=⟨86,[.agg ⟨[vJ 36,vI 37,vI 0,vI 0,vI 18380,vI 18380]⟩,vI 2000000000],vT⟩
theorem kKnown356:KKnown356.Ok Try.prog:=CF.of2 noNG mixed (l:=[]) .nil 3000 (by kernel_rfl)
def KKnown357:CF:=⟨86,[.agg ⟨[vJ 1,vI 2,vI 0,vI 0,vI 138,vI 138]⟩,vI 1000000],vT⟩
theorem kKnown357:KKnown357.Ok Try.prog:=CF.of2 noNG mixed (l:=[]) .nil 3000 (by kernel_rfl)
def KKnown358:CF:=⟨68,[.agg wKnown27],vF⟩
theorem kKnown358:KKnown358.Ok Try.prog:=CF.of2 noNG mixed (l:=[KKnown356,KKnown357]) (.cons kKnown356 (.cons kKnown357 .nil)) 3000 (by kernel_rfl)
def KKnown359:CF:=⟨103,[.agg wKnown27],.agg wKnown27⟩
theorem kKnown359:KKnown359.Ok Try.prog:=CF.of2 noNG mixed (l:=[]) .nil 3000 (by kernel_rfl)
def KKnown360:CF:=⟨70,[lstV wKnown0 0 1 13,vI 19],.agg ⟨[vI 0,vI 0,vI 0,vI 10,vI 10,vI 0,vI 0,vI 0,vI 0,vI 0,vI 0,vI 0,vI 0]⟩⟩
theorem kKnown360:KKnown360.Ok Try.prog:=CF.of2 noNG mixed (l:=[]) .nil 3000 (by kernel_rfl)
def KKnown361:CF:=⟨55,[lstV wKnown2 0 2 7,.agg ⟨[vI 18380,vI 18380]⟩,.func (.func 57) ⟨[]⟩ ⟨[]⟩],.agg ⟨[vI 300,vI 300,vI 0,vI 0,vI 0,vI 0]⟩⟩
theorem kKnown361:KKnown361.Ok Try.prog:=CF.of2 noNG mixed (l:=[]) .nil 3000 (by kernel_rfl)
def KKnown362:CF:=⟨91,[.agg ⟨[vJ 1,vI 2,vI 0,vI 0,vI 138,vI 138]⟩,.func (.func 98) ⟨[]⟩ ⟨[]⟩,.agg ⟨[vI 300,vI 300,vI 0,vI 0,vI 0,vI 0]⟩],.agg ⟨[vJ 301,vJ 297,vI 0,vI 0,vI 138,vI 138]⟩⟩
theorem kKnown362:KKnown362.Ok Try.prog:=CF.of2 noNG mixed (l:=[]) .nil 3000 (by kernel_rfl)
def KKnown363:CF:=⟨125,[.agg ⟨[vI 107848,vI 110248]⟩],.agg ⟨[vI 328,vI 333]⟩⟩
theorem kKnown363:KKnown363.Ok Try.prog:=CF.of2 noNG mixed (l:=[]) .nil 3000 (by kernel_rfl)
def KKnown364:CF:=⟨116,[.agg ⟨[vJ 301,vJ 297,vI 0,vI 0,vI 138,vI 138]⟩],.agg ⟨[vI 328,vI 333]⟩⟩
theorem kKnown364:KKnown364.Ok Try.prog:=CF.of2 noNG mixed (l:=[KKnown363]) (.cons kKnown363 .nil) 3000 (by kernel_rfl)
def KKnown365:CF:=⟨91,[.agg ⟨[vJ 301,vJ 297,vI 0,vI 0,vI 138,vI 138]⟩,.func (.func 111) ⟨[]⟩ ⟨[]⟩,.agg ⟨[vI 0,vI 0,vI 0,vI 0,vI 0,vI 0]⟩],.agg ⟨[vI 0,vI 0,vI 0,vI 0,vI 0,vI 0]⟩⟩
theorem kKnown365:KKnown365.Ok Try.prog:=CF.of2 noNG mixed (l:=[]) .nil 3000 (by kernel_rfl)
def KKnown366:CF:=⟨112,[.agg ⟨[vJ 301,vJ 297,vI 0,vI 0,vI 138,vI 138]⟩,.func (.func 111) ⟨[]⟩ ⟨[]⟩,.agg ⟨[vI 0,vI 0]⟩],.agg ⟨[vI 0,vI 0,vI 0,vI 0,vI 0,vI 0]⟩⟩
theorem kKnown366:KKnown366.Ok Try.prog:=CF.of2 noNG mixed (l:=[KKnown365]) (.cons kKnown365 .nil) 3000 (by kernel_rfl)
def KKnown367:CF:=⟨99,[.agg wKnown5,.agg ⟨[vI 0,vI 0,vI 0,vI 10,vI 10,vI 0,vI 0,vI 0,vI 0,vI 0,vI 0,vI 0,vI 0]⟩,.agg wKnown27],.agg ⟨[vI 0,vI 0,vI 0,vI 0,vI 0,vI 0]⟩⟩
theorem kKnown367:KKnown367.Ok Try.prog:=CF.of2 noNG mixed (l:=[KKnown361,KKnown362,KKnown364,KKnown366,KKnown27]) (.cons kKnown361 (.cons kKnown362 (.cons kKnown364 (.cons kKnown366 (.cons kKnown27 .nil))))) 3000 (by kernel_rfl)
def KKnown368:CF:=⟨69,[.agg wKnown5,.agg ⟨[vI 0,vI 0,vI 0,vI 10,vI 10,vI 0,vI 0,vI 0,vI 0,vI 0,vI 0,vI 0,vI 0]⟩,.agg wKnown27],.agg ⟨[vI 0,vI 0,vI 0,vI 0,vJ 97,vJ 97]⟩⟩
theorem kKnown368:KKnown368.Ok Try.prog:=CF.of2 noNG mixed (l:=[KKnown40,KKnown41,KKnown77,KKnown367]) (.cons kKnown40 (.cons kKnown41 (.cons kKnown77 (.cons kKnown367 .nil)))) 3000 (by kernel_rfl)
def KKnown369:CF:=⟨91,[.agg ⟨[vJ 1,vI 2,vI 0,vI 0,vI 138,vI 138]⟩,.func (.func 105) ⟨[]⟩ ⟨[]⟩,.agg ⟨[vI 0,vI 0,vI 0,vI 0,vJ 97,vJ 97]⟩],.agg ⟨[vJ 1,vI 2,vI 0,vI 0,vI 40,vI 40]⟩⟩
theorem kKnown369:KKnown369.Ok Try.prog:=CF.of2 noNG mixed (l:=[]) .nil 3000 (by kernel_rfl)
def KKnown370:CF:=⟨91,[.agg ⟨[vJ 36,vI 37,vI 0,vI 0,vI 18380,vI 18380]⟩,.func (.func 105) ⟨[]⟩ ⟨[]⟩,.agg ⟨[vJ 1,vI 2,vI 0,vI 0,vI 40,vI 40]⟩],.agg ⟨[vJ 38,vI 39,vI 0,vI 0,vI 18420,vI 18420]⟩⟩
theorem kKnown370:KKnown370.Ok Try.prog:=CF.of2 noNG mixed (l:=[]) .nil 3000 (by kernel_rfl)
def KKnown371:CF:=⟨119,[.agg wKnown27,.agg ⟨[vI 0,vI 0,vI 0,vI 0,vJ 97,vJ 97]⟩],.agg wKnown28⟩
theorem kKnown371:KKnown371.Ok Try.prog:=CF.of2 noNG mixed (l:=[KKnown369,KKnown370]) (.cons kKnown369 (.cons kKnown370 .nil)) 3000 (by kernel_rfl)
def KKnown372:CF:=⟨86,[.agg ⟨[vJ 38,vI 39,vI 0,vI 0,vI 18420,vI 18420]⟩,vI 2000000000],vT⟩
theorem kKnown372:KKnown372.Ok Try.prog:=CF.of2 noNG mixed (l:=[]) .nil 3000 (by kernel_rfl)
def KKnown373:CF:=⟨86,[.agg ⟨[vJ 1,vI 2,vI 0,vI 0,vI 40,vI 40]⟩,vI 1000000],vT⟩
theorem kKnown373:KKnown373.Ok Try.prog:=CF.of2 noNG mixed (l:=[]) .nil 3000 (by kernel_rfl)
def KKnown374:CF:=⟨68,[.agg wKnown28],vF⟩
theorem kKnown374:KKnown374.Ok Try.prog:=CF.of2 noNG mixed (l:=[KKnown372,KKnown373]) (.cons kKnown372 (.cons kKnown373 .nil)) 3000 (by kernel_rfl)
def KKnown375:CF:=⟨103,[.agg wKnown28],.agg wKnown28⟩
theorem kKnown375:KKnown375.Ok Try.prog:=CF.of2 noNG mixed (l:=[]) .nil 3000 (by kernel_rfl)
def KKnown376:CF:=⟨70,[lstV wKnown0 0 1 13,vI 20],.agg ⟨[vI 0,vI 0,vI 0,vI 10,vI 10,vI 0,vI 0,vI 0,vI 0,vI 0,vI 0,vI 0,vI 0]⟩⟩
theorem kKnown376:KKnown376.Ok Try.prog:=CF.of2 noNG mixed (l:=[]) .nil 3000 (by kernel_rfl)
def KKnown377:CF:=⟨55,[lstV wKnown2 0 2 7,.agg ⟨[vI 18420,vI 18420]⟩,.func (.func 57) ⟨[]⟩ ⟨[]⟩],.agg ⟨[vI 300,vI 300,vI 0,vI 0,vI 0,vI 0]⟩⟩
theorem kKnown377:KKnown377.Ok Try.prog:=CF.of2 noNG mixed (l:=[]) .nil 3000 (by kernel_rfl)
def KKnown378:CF:=⟨91,[.agg ⟨[vJ 1,vI 2,vI 0,vI 0,vI 40,vI 40]⟩,.func (.func 98) ⟨[]⟩ ⟨[]⟩,.agg ⟨[vI 300,vI 300,vI 0,vI 0,vI 0,vI 0]⟩],.agg ⟨[vJ 301,vJ 297,vI 0,vI 0,vI 40,vI 40]⟩⟩
theorem kKnown378:KKnown378.Ok Try.prog:=CF.of2 noNG mixed (l:=[]) .nil 3000 (by kernel_rfl)
def KKnown379:CF:=⟨125,[.agg ⟨[vI 90404,vI 92804]⟩],.agg ⟨[vI 300,vI 305]⟩⟩
theorem kKnown379:KKnown379.Ok Try.prog:=CF.of2 noNG mixed (l:=[]) .nil 3000 (by kernel_rfl)
def KKnown380:CF:=⟨116,[.agg ⟨[vJ 301,vJ 297,vI 0,vI 0,vI 40,vI 40]⟩],.agg ⟨[vI 300,vI 305]⟩⟩
theorem kKnown380:KKnown380.Ok Try.prog:=CF.of2 noNG mixed (l:=[KKnown379]) (.cons kKnown379 .nil) 3000 (by kernel_rfl)
def KKnown381:CF:=⟨91,[.agg ⟨[vJ 301,vJ 297,vI 0,vI 0,vI 40,vI 40]⟩,.func (.func 111) ⟨[]⟩ ⟨[]⟩,.agg ⟨[vI 0,vI 0,vI 0,vI 0,vI 0,vI 0]⟩],.agg ⟨[vI 0,vI 0,vI 0,vI 0,vI 0,vI 0]⟩⟩
theorem kKnown381:KKnown381.Ok Try.prog:=CF.of2 noNG mixed (l:=[]) .nil 3000 (by kernel_rfl)
def KKnown382:CF:=⟨112,[.agg ⟨[vJ 301,vJ 297,vI 0,vI 0,vI 40,vI 40]⟩,.func (.func 111) ⟨[]⟩ ⟨[]⟩,.agg ⟨[vI 0,vI 0]⟩],.agg ⟨[vI 0,vI 0,vI 0,vI 0,vI 0,vI 0]⟩⟩
theorem kKnown382:KKnown382.Ok Try.prog:=CF.of2 noNG mixed (l:=[KKnown381]) (.cons kKnown381 .nil) 3000 (by kernel_rfl)
def KKnown383:CF:=⟨99,[.agg wKnown5,.agg ⟨[vI 0,vI 0,vI 0,vI 10,vI 10,vI 0,vI 0,vI 0,vI 0,vI 0,vI 0,vI 0,vI 0]⟩,.agg wKnown28],.agg ⟨[vI 0,vI 0,vI 0,vI 0,vI 0,vI 0]⟩⟩
theorem kKnown383:KKnown383.Ok Try.prog:=CF.of2 noNG mixed (l:=[KKnown377,KKnown378,KKnown27,KKnown380,KKnown382]) (.cons kKnown377 (.cons kKnown378 (.cons kKnown27 (.cons kKnown380 (.cons kKnown382 .nil))))) 3000 (by kernel_rfl)
def KKnown384:CF:=⟨69,[.agg wKnown5,.agg ⟨[vI 0,vI 0,vI 0,vI 10,vI 10,vI 0,vI 0,vI 0,vI 0,vI 0,vI 0,vI 0,vI 0]⟩,.agg wKnown28],.agg ⟨[vI 0,vI 0,vI 0,vI 0,vJ 97,vJ 97]⟩⟩
theorem kKnown384:KKnown384.Ok Try.prog:=CF.of2 noNG mixed (l:=[KKnown40,KKnown41,KKnown77,KKnown383]) (.cons kKnown40 (.cons kKnown41 (.cons kKnown77 (.cons kKnown383 .nil)))) 3000 (by kernel_rfl)
def KKnown385:CF:=⟨91,[.agg ⟨[vJ 1,vI 2,vI 0,vI 0,vI 40,vI 40]⟩,.func (.func 105) ⟨[]⟩ ⟨[]⟩,.agg ⟨[vI 0,vI 0,vI 0,vI 0,vJ 97,vJ 97]⟩],.agg ⟨[vJ 1,vI 2,vI 0,vI 0,vJ 57,vJ 57]⟩⟩
theorem kKnown385:KKnown385.Ok Try.prog:=CF.of2 noNG mixed (l:=[]) .nil 3000 (by kernel_rfl)
def KKnown386:CF:=⟨91,[.agg ⟨[vJ 38,vI 39,vI 0,vI 0,vI 18420,vI 18420]⟩,.func (.func 105) ⟨[]⟩ ⟨[]⟩,.agg ⟨[vJ 1,vI 2,vI 0,vI 0,vJ 57,vJ 57]⟩],.agg ⟨[vJ 40,vI 41,vI 0,vI 0,vI 18362,vI 18362]⟩⟩
theorem kKnown386:KKnown386.Ok Try.prog:=CF.of2 noNG mixed (l:=[]) .nil 3000 (by kernel_rfl)
def KKnown387:CF:=⟨119,[.agg wKnown28,.agg ⟨[vI 0,vI 0,vI 0,vI 0,vJ 97,vJ 97]⟩],.agg wKnown29⟩
theorem kKnown387:KKnown387.Ok Try.prog:=CF.of2 noNG mixed (l:=[KKnown385,KKnown386]) (.cons kKnown385 (.cons kKnown386 .nil)) 3000 (by kernel_rfl)
def KKnown388:CF:=⟨86,[.agg ⟨[vJ 40,vI 41,vI 0,vI 0,vI 18362,vI 18362]⟩,vI 2000000000],vT⟩
theorem kKnown388:KKnown388.Ok Try.prog:=CF.of2 noNG mixed (l:=[]) .nil 3000 (by kernel_rfl)
def KKnown389:CF:=⟨86,[.agg ⟨[vJ 1,vI 2,vI 0,vI 0,vJ 57,vJ 57]⟩,vI 1000000],vT⟩
theorem kKnown389:KKnown389.Ok Try.prog:=CF.of2 noNG mixed (l:=[]) .nil 3000 (by kernel_rfl)
def KKnown390:CF:=⟨68,[.agg wKnown29],vF⟩
theorem kKnown390:KKnown390.Ok Try.prog:=CF.of2 noNG mixed (l:=[KKnown388,KKnown389]) (.cons kKnown388 (.cons kKnown389 .nil)) 3000 (by kernel_rfl)
def KKnown391:CF:=⟨103,[.agg wKnown29],.agg wKnown29⟩
theorem kKnown391:KKnown391.Ok Try.prog:=CF.of2 noNG mixed (l:=[]) .nil 3000 (by kernel_rfl)
def KKnown392:CF:=⟨70,[lstV wKnown0 0 1 13,vI 21],.agg ⟨[vI 0,vI 0,vI 0,vI 10,vI 10,vI 0,vI 0,vI 0,vI 0,vI 0,vI 0,vI 0,vI 0]⟩⟩
theorem kKnown392:KKnown392.Ok Try.prog:=CF.of2 noNG mixed (l:=[]) .nil 3000 (by kernel_rfl)
def KKnown393:CF:=⟨55,[lstV wKnown2 0 2 7,.agg ⟨[vI 18362,vI 18362]⟩,.func (.func 57) ⟨[]⟩ ⟨[]⟩],.agg ⟨[vI 300,vI 300,vI 0,vI 0,vI 0,vI 0]⟩⟩
theorem kKnown393:KKnown393.Ok Try.prog:=CF.of2 noNG mixed (l:=[]) .nil 3000 (by kernel_rfl)
def KKnown394:CF:=⟨91,[.agg ⟨[vJ 1,vI 2,vI 0,vI 0,vJ 57,vJ 57]⟩,.func (.func 98) ⟨[]⟩ ⟨[]⟩,.agg ⟨[vI 300,vI 300,vI 0,vI 0,vI 0,vI 0]⟩],.agg ⟨[vJ 301,vJ 297,vI 0,vI 0,vJ 57,vJ 57]⟩⟩
theorem kKnown394:KKnown394.Ok Try.prog:=CF.of2 noNG mixed (l:=[]) .nil 3000 (by kernel_rfl)
def KKnown395:CF:=⟨125,[.agg ⟨[vI 92168,vI 94568]⟩],.agg ⟨[vI 303,vI 308]⟩⟩
theorem kKnown395:KKnown395.Ok Try.prog:=CF.of2 noNG mixed (l:=[]) .nil 3000 (by kernel_rfl)
def KKnown396:CF:=⟨116,[.agg ⟨[vJ 301,vJ 297,vI 0,vI 0,vJ 57,vJ 57]⟩],.agg ⟨[vI 303,vI 308]⟩⟩
theorem kKnown396:KKnown396.Ok Try.prog:=CF.of2 noNG mixed (l:=[KKnown395]) (.cons kKnown395 .nil) 3000 (by kernel_rfl)
def KKnown397:CF:=⟨91,[.agg ⟨[vJ 301,vJ 297,vI 0,vI 0,vJ 57,vJ 57]⟩,.func (.func 111) ⟨[]⟩ ⟨[]⟩,.agg ⟨[vI 0,vI 0,vI 0,vI 0,vI 0,vI 0]⟩],.agg ⟨[vI 0,vI 0,vI 0,vI 0,vI 0,vI 0]⟩⟩
theorem kKnown397:KKnown397.Ok Try.prog:=CF.of2 noNG mixed (l:=[]) .nil 3000 (by kernel_rfl)
def KKnown398:CF:=⟨112,[.agg ⟨[vJ 301,vJ 297,vI 0,vI 0,vJ 57,vJ 57]⟩,.func (.func 111) ⟨[]⟩ ⟨[]⟩,.agg ⟨[vI 0,vI 0]⟩],.agg ⟨[vI 0,vI 0,vI 0,vI 0,vI 0,vI 0]⟩⟩
theorem kKnown398:KKnown398.Ok Try.prog:=CF.of2 noNG mixed (l:=[KKnown397]) (.cons kKnown397 .nil) 3000 (by kernel_rfl)
def KKnown399:CF:=⟨99,[.agg wKnown5,.agg ⟨[vI 0,vI 0,vI 0,vI 10,vI 10,vI 0,vI 0,vI 0,vI 0,vI 0,vI 0,vI 0,vI 0]⟩,.agg wKnown29],.agg ⟨[vI 0,vI 0,vI 0,vI 0,vI 0,vI 0]⟩⟩
theorem kKnown399:KKnown399.Ok Try.prog:=CF.of2 noNG mixed (l:=[KKnown393,KKnown394,KKnown396,KKnown398,KKnown27]) (.cons kKnown393 (.cons kKnown394 (.cons kKnown396 (.cons kKnown398 (.cons kKnown27 .nil))))) 3000 (by kernel_rfl)
def KKnown400:CF:=⟨69,[.agg wKnown5,.agg ⟨[vI 0,vI 0,vI 0,vI 10,vI 10,vI 0,vI 0,vI 0,vI 0,vI 0,vI 0,vI 0,vI 0]⟩,.agg wKnown29],.agg ⟨[vI 0,vI 0,vI 0,vI 0,vJ 97,vJ 97]⟩⟩
theorem kKnown400:KKnown400.Ok Try.prog:=CF.of2 noNG mixed (l:=[KKnown40,KKnown41,KKnown77,KKnown399]) (.cons kKnown40 (.cons kKnown41 (.cons kKnown77 (.cons kKnown399 .nil)))) 3000 (by kernel_rfl)
def KKnown401:CF:=⟨91,[.agg ⟨[vJ 1,vI 2,vI 0,vI 0,vJ 57,vJ 57]⟩,.func (.func 105) ⟨[]⟩ ⟨[]⟩,.agg ⟨[vI 0,vI 0,vI 0,vI 0,vJ 97,vJ 97]⟩],.agg ⟨[vJ 1,vI 2,vI 0,vI 0,vJ 155,vJ 155]⟩⟩
theorem kKnown401:KKnown401.Ok Try.prog:=CF.of2 noNG mixed (l:=[]) .nil 3000 (by kernel_rfl)
def KKnown402:CF:=⟨91,[.agg ⟨[vJ 40,vI 41,vI 0,vI 0,vI 18362,vI 18362]⟩,.func (.func 105) ⟨[]⟩ ⟨[]⟩,.agg ⟨[vJ 1,vI 2,vI 0,vI 0,vJ 155,vJ 155]⟩],.agg ⟨[vJ 42,vI 43,vI 0,vI 0,vI 18206,vI 18206]⟩⟩
theorem kKnown402:KKnown402.Ok Try.prog:=CF.of2 noNG mixed (l:=[]) .nil 3000 (by kernel_rfl)
def KKnown403:CF:=⟨119,[.agg wKnown29,.agg ⟨[vI 0,vI 0,vI 0,vI 0,vJ 97,vJ 97]⟩],.agg wKnown30⟩
theorem kKnown403:KKnown403.Ok Try.prog:=CF.of2 noNG mixed (l:=[KKnown401,KKnown402]) (.cons kKnown401 (.cons kKnown402 .nil)) 3000 (by kernel_rfl)
def KKnown404:CF:=⟨86,[.agg ⟨[vJ 42,vI 43,vI 0,vI 0,vI 18206,vI 18206]⟩,vI 2000000000],vT⟩
theorem kKnown404:KKnown404.Ok Try.prog:=CF.of2 noNG mixed (l:=[]) .nil 3000 (by kernel_rfl)
def KKnown405:CF:=⟨86,[.agg ⟨[vJ 1,vI 2,vI 0,vI 0,vJ 155,vJ 155]⟩,vI 1000000],vT⟩
theorem kKnown405:KKnown405.Ok Try.prog:=CF.of2 noNG mixed (l:=[]) .nil 3000 (by kernel_rfl)
def KKnown406:CF:=⟨68,[.agg wKnown30],vF⟩
theorem kKnown406:KKnown406.Ok Try.prog:=CF.of2 noNG mixed (l:=[KKnown404,KKnown405]) (.cons kKnown404 (.cons kKnown405 .nil)) 3000 (by kernel_rfl)
def KKnown407:CF:=⟨103,[.agg wKnown30],.agg wKnown30⟩
theorem kKnown407:KKnown407.Ok Try.prog:=CF.of2 noNG mixed (l:=[]) .nil 3000 (by kernel_rfl)
def KKnown408:CF:=⟨70,[lstV wKnown0 0 1 13,vI 22],.agg ⟨[vI 0,vI 0,vI 0,vI 10,vI 10,vI 0,vI 0,vI 0,vI 0,vI 0,vI 0,vI 0,vI 0]⟩⟩
theorem kKnown408:KKnown408.Ok Try.prog:=CF.of2 noNG mixed (l:=[]) .nil 3000 (by kernel_rfl)
def KKnown409:CF:=⟨55,[lstV wKnown2 0 2 7,.agg ⟨[vI 18206,vI 18206]⟩,.func (.func 57) ⟨[]⟩ ⟨[]⟩],.agg ⟨[vI 300,vI 300,vI 0,vI 0,vI 0,vI 0]⟩⟩
theorem kKnown409:KKnown409.Ok Try.prog:=CF.of2 noNG mixed (l:=[]) .nil 3000 (by kernel_rfl)
def KKnown410:CF:=⟨91,[.agg ⟨[vJ 1,vI 2,vI 0,vI 0,vJ 155,vJ 155]⟩,.func (.func 98) ⟨[]⟩ ⟨[]⟩,.agg ⟨[vI 300,vI 300,vI 0,vI 0,vI 0,vI 0]⟩],.agg ⟨[vJ 301,vJ 297,vI 0,vI 0,vJ 155,vJ 155]⟩⟩
theorem kKnown410:KKnown410.Ok Try.prog:=CF.of2 noNG mixed (l:=[]) .nil 3000 (by kernel_rfl)
def KKnown411:CF:=⟨125,[.agg ⟨[vI 113140,vI 115540]⟩],.agg ⟨[vI 336,vI 340]⟩⟩
theorem kKnown411:KKnown411.Ok Try.prog:=CF.of2 noNG mixed (l:=[]) .nil 3000 (by kernel_rfl)
def KKnown412:CF:=⟨116,[.agg ⟨[vJ 301,vJ 297,vI 0,vI 0,vJ 155,vJ 155]⟩],.agg ⟨[vI 336,vI 340]⟩⟩
theorem kKnown412:KKnown412.Ok Try.prog:=CF.of2 noNG mixed (l:=[KKnown411]) (.cons kKnown411 .nil) 3000 (by kernel_rfl)
def KKnown413:CF:=⟨91,[.agg ⟨[vJ 301,vJ 297,vI 0,vI 0,vJ 155,vJ 155]⟩,.func (.func 111) ⟨[]⟩ ⟨[]⟩,.agg ⟨[vI 0,vI 0,vI 0,vI 0,vI 0,vI 0]⟩],.agg ⟨[vI 0,vI 0,vI 0,vI 0,vI 0,vI 0]⟩⟩
theorem kKnown413:KKnown413.Ok Try.prog:=CF.of2 noNG mixed (l:=[]) .nil 3000 (by kernel_rfl)
def KKnown414:CF:=⟨112,[.agg ⟨[vJ 301,vJ 297,vI 0,vI 0,vJ 155,vJ 155]⟩,.func (.func 111) ⟨[]⟩ ⟨[]⟩,.agg ⟨[vI 0,vI 0]⟩],.agg ⟨[vI 0,vI 0,vI 0,vI 0,vI 0,vI 0]⟩⟩
theorem kKnown414:KKnown414.Ok Try.prog:=CF.of2 noNG mixed (l:=[KKnown413]) (.cons kKnown413 .nil) 3000 (by kernel_rfl)
def KKnown415:CF:=⟨99,[.agg wKnown5,.agg ⟨[vI 0,vI 0,vI 0,vI 10,vI 10,vI 0,vI 0,vI 0,vI 0,vI 0,vI 0,vI 0,vI 0]⟩,.agg wKnown30],.agg ⟨[vI 0,vI 0,vI 0,vI 0,vI 0,vI 0]⟩⟩
theorem kKnown415:KKnown415.Ok Try.prog:=CF.of2 noNG mixed (l:=[KKnown409,KKnown410,KKnown27,KKnown412,KKnown414]) (.cons kKnown409 (.cons kKnown410 (.cons kKnown27 (.cons kKnown412 (.cons kKnown414 .nil))))) 3000 (by kernel_rfl)
def KKnown416:CF:=⟨69,[.agg wKnown5,.agg ⟨[vI 0,vI 0,vI 0,vI 10,vI 10,vI 0,vI 0,vI 0,vI 0,vI 0,vI 0,vI 0,vI 0]⟩,.agg wKnown30],.agg ⟨[vI 0,vI 0,vI 0,vI 0,vJ 97,vJ 97]⟩⟩
theorem kKnown416:KKnown416.Ok Try.prog:=CF.of2 noNG mixed (l:=[KKnown40,KKnown41,KKnown77,KKnown415]) (.cons kKnown40 (.cons kKnown41 (.cons kKnown77 (.cons kKnown415 .nil)))) 3000 (by kernel_rfl)
def KKnown417:CF:=⟨91,[.agg ⟨[vJ 1,vI 2,vI 0,vI 0,vJ 155,vJ 155]⟩,.func (.func 105) ⟨[]⟩ ⟨[]⟩,.agg ⟨[vI 0,vI 0,vI 0,vI 0,vJ 97,vJ 97]⟩],.agg ⟨[vJ 1,vI 2,vI 0,vI 0,vJ 253,vJ 253]⟩⟩
theorem kKnown417:KKnown417.Ok Try.prog:=CF.of2 noNG mixed (l:=[]) .nil 3000 (by kernel_rfl)
def KKnown418:CF:=⟨91,[.agg ⟨[vJ 42,vI 43,vI 0,vI 0,vI 18206,vI 18206]⟩,.func (.func 105) ⟨[]⟩ ⟨[]⟩,.agg ⟨[vJ 1,vI 2,vI 0,vI 0,vJ 253,vJ 253]⟩],.agg ⟨[vJ 44,vI 45,vI 0,vI 0,vI 17952,vI 17952]⟩⟩
theorem kKnown418:KKnown418.Ok Try.prog:=CF.of2 noNG mixed (l:=[]) .nil 3000 (by kernel_rfl)
def KKnown419:CF:=⟨119,[.agg wKnown30,.agg ⟨[vI 0,vI 0,vI 0,vI 0,vJ 97,vJ 97]⟩],.agg wKnown31⟩
theorem kKnown419:KKnown419.Ok Try.prog:=CF.of2 noNG mixed (l:=[KKnown417,KKnown418]) (.cons kKnown417 (.cons kKnown418 .nil)) 3000 (by kernel_rfl)
def KKnown420:CF:=⟨86,[.agg ⟨[vJ 44,vI 45,vI 0,vI 0,vI 17952,vI 17952]⟩,vI 2000000000],vT⟩
theorem kKnown420:KKnown420.Ok Try.prog:=CF.of2 noNG mixed (l:=[]) .nil 3000 (by kernel_rfl)
def KKnown421:CF:=⟨86,[.agg ⟨[vJ 1,vI 2,vI 0,vI 0,vJ 253,vJ 253]⟩,vI 1000000],vT⟩
theorem kKnown421:KKnown421.Ok Try.prog:=CF.of2 noNG mixed (l:=[]) .nil 3000 (by kernel_rfl)
def KKnown422:CF:=⟨68,[.agg wKnown31],vF⟩
theorem kKnown422:KKnown422.Ok Try.prog:=CF.of2 noNG mixed (l:=[KKnown420,KKnown421]) (.cons kKnown420 (.cons kKnown421 .nil)) 3000 (by kernel_rfl)
def KKnown423:CF:=⟨103,[.agg wKnown31],.agg wKnown31⟩
theorem kKnown423:KKnown423.Ok Try.prog:=CF.of2 noNG mixed (l:=[]) .nil 3000 (by kernel_rfl)
def KKnown424:CF:=⟨70,[lstV wKnown0 0 1 13,vI 23],.agg ⟨[vI 0,vI 0,vI 0,vI 10,vI 10,vI 0,vI 0,vI 0,vI 0,vI 0,vI 0,vI 0,vI 0]⟩⟩
theorem kKnown424:KKnown424.Ok Try.prog:=CF.of2 noNG mixed (l:=[]) .nil 3000 (by kernel_rfl)
def KKnown425:CF:=⟨55,[lstV wKnown2 0 2 7,.agg ⟨[vI 17952,vI 17952]⟩,.func (.func 57) ⟨[]⟩ ⟨[]⟩],.agg ⟨[vI 300,vI 300,vI 0,vI 0,vI 0,vI 0]⟩⟩
theorem kKnown425:KKnown425.Ok Try.prog:=CF.of2 noNG mixed (l:=[]) .nil 3000 (by kernel_rfl)
def KKnown426:CF:=⟨91,[.agg ⟨[vJ 1,vI 2,vI 0,vI 0,vJ 253,vJ 253]⟩,.func (.func 98) ⟨[]⟩ ⟨[]⟩,.agg ⟨[vI 300,vI 300,vI 0,vI 0,vI 0,vI 0]⟩],.agg ⟨[vJ 301,vJ 297,vI 0,vI 0,vJ 253,vJ 253]⟩⟩
theorem kKnown426:KKnown426.Ok Try.prog:=CF.of2 noNG mixed (l:=[]) .nil 3000 (by kernel_rfl)
def KKnown427:CF:=⟨125,[.agg ⟨[vI 153320,vI 155720]⟩],.agg ⟨[vI 391,vI 395]⟩⟩
theorem kKnown427:KKnown427.Ok Try.prog:=CF.of2 noNG mixed (l:=[]) .nil 3000 (by kernel_rfl)
def KKnown428:CF:=⟨116,[.agg ⟨[vJ 301,vJ 297,vI 0,vI 0,vJ 253,vJ 253]⟩],.agg ⟨[vI 391,vI 395]⟩⟩
theorem kKnown428:KKnown428.Ok Try.prog:=CF.of2 noNG mixed (l:=[KKnown427]) (.cons kKnown427 .nil) 3000 (by kernel_rfl)
def KKnown429:CF:=⟨91,[.agg ⟨[vJ 301,vJ 297,vI 0,vI 0,vJ 253,vJ 253]⟩,.func (.func 111) ⟨[]⟩ ⟨[]⟩,.agg ⟨[vI 0,vI 0,vI 0,vI 0,vI 0,vI 0]⟩],.agg ⟨[vI 0,vI 0,vI 0,vI 0,vI 0,vI 0]⟩⟩
theorem kKnown429:KKnown429.Ok Try.prog:=CF.of2 noNG mixed (l:=[]) .nil 3000 (by kernel_rfl)
def KKnown430:CF:=⟨112,[.agg ⟨[vJ 301,vJ 297,vI 0,vI 0,vJ 253,vJ 253]⟩,.func (.func 111) ⟨[]⟩ ⟨[]⟩,.agg ⟨[vI 0,vI 0]⟩],.agg ⟨[vI 0,vI 0,vI 0,vI 0,vI 0,vI 0]⟩⟩
theorem kKnown430:KKnown430.Ok Try.prog:=CF.of2 noNG mixed (l:=[KKnown429]) (.cons kKnown429 .nil) 3000 (by kernel_rfl)
def KKnown431:CF:=⟨99,[.agg wKnown5,.agg ⟨[vI 0,vI 0,vI 0,vI 10,vI 10,vI 0,vI 0,vI 0,vI 0,vI 0,vI 0,vI 0,vI 0]⟩,.agg wKnown31],.agg ⟨[vI 0,vI 0,vI 0,vI 0,vI 0,vI 0]⟩⟩
theorem kKnown431:KKnown431.Ok Try.prog:=CF.of2 noNG mixed (l:=[KKnown425,KKnown426,KKnown428,KKnown430,KKnown27]) (.cons kKnown425 (.cons kKnown426 (.cons kKnown428 (.cons kKnown430 (.cons kKnown27 .nil))))) 3000 (by kernel_rfl)
def KKnown432:CF:=⟨69,[.agg wKnown5,.agg ⟨[vI 0,vI 0,vI 0,vI 10,vI 10,vI 0,vI 0,vI 0,vI 0,vI 0,vI 0,vI 0,vI 0]⟩,.agg wKnown31],.agg ⟨[vI 0,vI 0,vI 0,vI 0,vJ 97,vJ 97]⟩⟩
theorem kKnown432:KKnown432.Ok Try.prog:=CF.of2 noNG mixed (l:=[KKnown40,KKnown41,KKnown77,KKnown431]) (.cons kKnown40 (.cons kKnown41 (.cons kKnown77 (.cons kKnown431 .nil)))) 3000 (by kernel_rfl)
def KKnown433:CF:=⟨91,[.agg ⟨[vJ 1,vI 2,vI 0,vI 0,vJ 253,vJ 253]⟩,.func (.func 105) ⟨[]⟩ ⟨[]⟩,.agg ⟨[vI 0,vI 0,vI 0,vI 0,vJ 97,vJ 97]⟩],.agg ⟨[vJ 1,vI 2,vI 0,vI 0,vJ 351,vJ 351]⟩⟩
theorem kKnown433:KKnown433.Ok Try.prog:=CF.of2 noNG mixed (l:=[]) .nil 3000 (by kernel_rfl)
def KKnown434:CF:=⟨91,[.agg ⟨[vJ 44,vI 45,vI 0,vI 0,vI 17952,vI 17952]⟩,.func (.func 105) ⟨[]⟩ ⟨[]⟩,.agg ⟨[vJ 1,vI 2,vI 0,vI 0,vJ 351,vJ 351]⟩],.agg ⟨[vJ 46,vI 47,vI 0,vI 0,vI 17600,vI 17600]⟩⟩
theorem kKnown434:KKnown434.Ok Try.prog:=CF.of2 noNG mixed (l:=[]) .nil 3000 (by kernel_rfl)
def KKnown435:CF:=⟨119,[.agg wKnown31,.agg ⟨[vI 0,vI 0,vI 0,vI 0,vJ 97,vJ 97]⟩],.agg wKnown32⟩
theorem kKnown435:KKnown435.Ok Try.prog:=CF.of2 noNG mixed (l:=[KKnown433,KKnown434]) (.cons kKnown433 (.cons kKnown434 .nil)) 3000 (by kernel_rfl)
def KKnown436:CF:=⟨86,[.agg ⟨[vJ 46,vI 47,vI 0,vI 0,vI 17600,vI 17600]⟩,vI 2000000000],vT⟩
theorem kKnown436:KKnown436.Ok Try.prog:=CF.of2 noNG mixed (l:=[]) .nil 3000 (by kernel_rfl)
def KKnown437:CF:=⟨86,[.agg ⟨[vJ 1,vI 2,vI 0,vI 0,vJ 351,vJ 351]⟩,vI 1000000],vT⟩
theorem kKnown437:KKnown437.Ok Try.prog:=CF.of2 noNG mixed (l:=[]) .nil 3000 (by kernel_rfl)
def KKnown438:CF:=⟨68,[.agg wKnown32],vF⟩
theorem kKnown438:KKnown438.Ok Try.prog:=CF.of2 noNG mixed (l:=[KKnown436,KKnown437]) (.cons kKnown436 (.cons kKnown437 .nil)) 3000 (by kernel_rfl)
def KKnown439:CF:=⟨103,[.agg wKnown32],.agg wKnown32⟩
theorem kKnown439:KKnown439.Ok Try.prog:=CF.of2 noNG mixed (l:=[]) .nil 3000 (by kernel_rfl)
def KKnown440:CF:=⟨70,[lstV wKnown0 0 1 13,vI 24],.agg ⟨[vI 0,vI 0,vI 0,vI 10,vI 10,vI 0,vI 0,vI 0,vI 0,vI 0,vI 0,vI 0,vI 0]⟩⟩
theorem kKnown440:KKnown440.Ok Try.prog:=CF.of2 noNG mixed (l:=[]) .nil 3000 (by kernel_rfl)
def KKnown441:CF:=⟨55,[lstV wKnown2 0 2 7,.agg ⟨[vI 17600,vI 17600]⟩,.func (.func 57) ⟨[]⟩ ⟨[]⟩],.agg ⟨[vI 300,vI 300,vI 0,vI 0,vI 0,vI 0]⟩⟩
theorem kKnown441:KKnown441.Ok Try.prog:=CF.of2 noNG mixed (l:=[]) .nil 3000 (by kernel_rfl)
def KKnown442:CF:=⟨91,[.agg ⟨[vJ 1,vI 2,vI 0,vI 0,vJ 351,vJ 351]⟩,.func (.func 98) ⟨[]⟩ ⟨[]⟩,.agg ⟨[vI 300,vI 300,vI 0,vI 0,vI 0,vI 0]⟩],.agg ⟨[vJ 301,vJ 297,vI 0,vI 0,vJ 351,vJ 351]⟩⟩
theorem kKnown442:KKnown442.Ok Try.prog:=CF.of2 noNG mixed (l:=[]) .nil 3000 (by kernel_rfl)
def KKnown443:CF:=⟨125,[.agg ⟨[vI 212708,vI 215108]⟩],.agg ⟨[vI 461,vI 464]⟩⟩
theorem kKnown443:KKnown443.Ok Try.prog:=CF.of2 noNG mixed (l:=[]) .nil 3000 (by kernel_rfl)
def KKnown444:CF:=⟨116,[.agg ⟨[vJ 301,vJ 297,vI 0,vI 0,vJ 351,vJ 351]⟩],.agg ⟨[vI 461,vI 464]⟩⟩
theorem kKnown444:KKnown444.Ok Try.prog:=CF.of2 noNG mixed (l:=[KKnown443]) (.cons kKnown443 .nil) 3000 (by kernel_rfl)
def KKnown445:CF:=⟨91,[.agg ⟨[vJ 301,vJ 297,vI 0,vI 0,vJ 351,vJ 351]⟩,.func (.func 111) ⟨[]⟩ ⟨[]⟩,.agg ⟨[vI 0,vI 0,vI 0,vI 0,vI 0,vI 0]⟩],.agg ⟨[vI 0,vI 0,vI 0,vI 0,vI 0,vI 0]⟩⟩
theorem kKnown445:KKnown445.Ok Try.prog:=CF.of2 noNG mixed (l:=[]) .nil 3000 (by kernel_rfl)
def KKnown446:CF:=⟨112,[.agg ⟨[vJ 301,vJ 297,vI 0,vI 0,vJ 351,vJ 351]⟩,.func (.func 111) ⟨[]⟩ ⟨[]⟩,.agg ⟨[vI 0,vI 0]⟩],.agg ⟨[vI 0,vI 0,vI 0,vI 0,vI 0,vI 0]⟩⟩
theorem kKnown446:KKnown446.Ok Try.prog:=CF.of2 noNG mixed (l:=[KKnown445]) (.cons kKnown445 .nil) 3000 (by kernel_rfl)
def KKnown447:CF:=⟨99,[.agg wKnown5,.agg ⟨[vI 0,vI 0,vI 0,vI 10,vI 10,vI 0,vI 0,vI 0,vI 0,vI 0,vI 0,vI 0,vI 0]⟩,.agg wKnown32],.agg ⟨[vI 0,vI 0,vI 0,vI 0,vI 0,vI 0]⟩⟩
theorem kKnown447:KKnown447.Ok Try.prog:=CF.of2 noNG mixed (l:=[KKnown441,KKnown442,KKnown27,KKnown444,KKnown446]) (.cons kKnown441 (.cons kKnown442 (.cons kKnown27 (.cons kKnown444 (.cons kKnown446 .nil))))) 3000 (by kernel_rfl)
def KKnown448:CF:=⟨69,[.agg wKnown5,.agg ⟨[vI 0,vI 0,vI 0,vI 10,vI 10,vI 0,vI 0,vI 0,vI 0,vI 0,vI 0,vI 0,vI 0]⟩,.agg wKnown32],.agg ⟨[vI 0,vI 0,vI 0,vI 0,vJ 97,vJ 97]⟩⟩
theorem kKnown448:KKnown448.Ok Try.prog:=CF.of2 noNG mixed (l:=[KKnown40,KKnown41,KKnown77,KKnown447]) (.cons kKnown40 (.cons kKnown41 (.cons kKnown77 (.cons kKnown447 .nil)))) 3000 (by kernel_rfl)
def KKnown449:CF:=⟨91,[.agg ⟨[vJ 1,vI 2,vI 0,vI 0,vJ 351,vJ 351]⟩,.func (.func 105) ⟨[]⟩ ⟨[]⟩,.agg ⟨[vI 0,vI 0,vI 0,vI 0,vJ 97,vJ 97]⟩],.agg ⟨[vJ 1,vI 2,vI 0,vI 0,vJ 449,vJ 449]⟩⟩
theorem kKnown449:KKnown449.Ok Try.prog:=CF.of2 noNG mixed (l:=[]) .nil 3000 (by kernel_rfl)
def KKnown450:CF:=⟨91,[.agg ⟨[vJ 46,vI 47,vI 0,vI 0,vI 17600,vI 17600]⟩,.func (.func 105) ⟨[]⟩ ⟨[]⟩,.agg ⟨[vJ 1,vI 2,vI 0,vI 0,vJ 449,vJ 449]⟩],.agg ⟨[vJ 48,vI 49,vI 0,vI 0,vI 17150,vI 17150]⟩⟩
theorem kKnown450:KKnown450.Ok Try.prog:=CF.of2 noNG mixed (l:=[]) .nil 3000 (by kernel_rfl)
def KKnown451:CF:=⟨119,[.agg wKnown32,.agg ⟨[vI 0,vI 0,vI 0,vI 0,vJ 97,vJ 97]⟩],.agg wKnown33⟩
theorem kKnown451:KKnown451.Ok Try.prog:=CF.of2 noNG mixed (l:=[KKnown449,KKnown450]) (.cons kKnown449 (.cons kKnown450 .nil)) 3000 (by kernel_rfl)
def KKnown452:CF:=⟨86,[.agg ⟨[vJ 48,vI 49,vI 0,vI 0,vI 17150,vI 17150]⟩,vI 2000000000],vT⟩
theorem kKnown452:KKnown452.Ok Try.prog:=CF.of2 noNG mixed (l:=[]) .nil 3000 (by kernel_rfl)
def KKnown453:CF:=⟨86,[.agg ⟨[vJ 1,vI 2,vI 0,vI 0,vJ 449,vJ 449]⟩,vI 1000000],vT⟩
theorem kKnown453:KKnown453.Ok Try.prog:=CF.of2 noNG mixed (l:=[]) .nil 3000 (by kernel_rfl)
def KKnown454:CF:=⟨68,[.agg wKnown33],vF⟩
theorem kKnown454:KKnown454.Ok Try.prog:=CF.of2 noNG mixed (l:=[KKnown452,KKnown453]) (.cons kKnown452 (.cons kKnown453 .nil)) 3000 (by kernel_rfl)
def KKnown455:CF:=⟨103,[.agg wKnown33],.agg wKnown33⟩
theorem kKnown455:KKnown455.Ok Try.prog:=CF.of2 noNG mixed (l:=[]) .nil 3000 (by kernel_rfl)
def KKnown456:CF:=⟨70,[lstV wKnown0 0 1 13,vI 25],.agg ⟨[vI 0,vI 0,vI 0,vI 10,vI 10,vI 0,vI 0,vI 0,vI 0,vI 0,vI 0,vI 0,vI 0]⟩⟩
theorem kKnown456:KKnown456.Ok Try.prog:=CF.of2 noNG mixed (l:=[]) .nil 3000 (by kernel_rfl)
def KKnown457:CF:=⟨55,[lstV wKnown2 0 2 7,.agg ⟨[vI 17150,vI 17150]⟩,.func (.func 57) ⟨[]⟩ ⟨[]⟩],.agg ⟨[vI 300,vI 300,vI 0,vI 0,vI 0,vI 0]⟩⟩
theorem kKnown457:KKnown457.Ok Try.prog:=CF.of2 noNG mixed (l:=[]) .nil 3000 (by kernel_rfl)
def KKnown458:CF:=⟨91,[.agg ⟨[vJ 1,vI 2,vI 0,vI 0,vJ 449,vJ 449]⟩,.func (.func 98) ⟨[]⟩ ⟨[]⟩,.agg ⟨[vI 300,vI 300,vI 0,vI 0,vI 0,vI 0]⟩],.agg ⟨[vJ 301,vJ 297,vI 0,vI 0,vJ 449,vJ 449]⟩⟩
theorem kKnown458:KKnown458.Ok Try.prog:=CF.of2 noNG mixed (l:=[]) .nil 3000 (by kernel_rfl)
def KKnown459:CF:=⟨125,[.agg ⟨[vI 291304,vI 293704]⟩],.agg ⟨[vI 539,vI 542]⟩⟩
theorem kKnown459:KKnown459.Ok Try.prog:=CF.of2 noNG mixed (l:=[]) .nil 3000 (by kernel_rfl)
def KKnown460:CF:=⟨116,[.agg ⟨[vJ 301,vJ 297,vI 0,vI 0,vJ 449,vJ 449]⟩],.agg ⟨[vI 539,vI 542]⟩⟩
theorem kKnown460:KKnown460.Ok Try.prog:=CF.of2 noNG mixed (l:=[KKnown459]) (.cons kKnown459 .nil) 3000 (by kernel_rfl)
def KKnown461:CF:=⟨91,[.agg ⟨[vJ 301,vJ 297,vI 0,vI 0,vJ 449,vJ 449]⟩,.func (.func 111) ⟨[]⟩ ⟨[]⟩,.agg ⟨[vI 0,vI 0,vI 0,vI 0,vI 0,vI 0]⟩],.agg ⟨[vI 0,vI 0,vI 0,vI 0,vI 0,vI 0]⟩⟩
theorem kKnown461:KKnown461.Ok Try.prog:=CF.of2 noNG mixed (l:=[]) .nil 3000 (by kernel_rfl)
def KKnown462:CF:=⟨112,[.agg ⟨[vJ 301,vJ 297,vI 0,vI 0,vJ 449,vJ 449]⟩,.func (.func 111) ⟨[]⟩ ⟨[]⟩,.agg ⟨[vI 0,vI 0]⟩],.agg ⟨[vI 0,vI 0,vI 0,vI 0,vI 0,vI 0]⟩⟩
theorem kKnown462:KKnown462.Ok Try.prog:=CF.of2 noNG mixed (l:=[KKnown461]) (.cons kKnown461 .nil) 3000 (by kernel_rfl)
def KKnown463:CF:=⟨99,[.agg wKnown5,.agg ⟨[vI 0,vI 0,vI 0,vI 10,vI 10,vI 0,vI 0,vI 0,vI 0,vI 0,vI 0,vI 0,vI 0]⟩,.agg wKnown33],.agg ⟨[vI 0,vI 0,vI 0,vI 0,vI 0,vI 0]⟩⟩
theorem kKnown463:KKnown463.Ok Try.prog:=CF.of2 noNG mixed (l:=[KKnown457,KKnown458,KKnown460,KKnown462,KKnown27]) (.cons kKnown457 (.cons kKnown458 (.cons kKnown460 (.cons kKnown462 (.cons kKnown27 .nil))))) 3000 (by kernel_rfl)
def KKnown464:CF:=⟨69,[.agg wKnown5,.agg ⟨[vI 0,vI 0,vI 0,vI 10,vI 10,vI 0,vI 0,vI 0,vI 0,vI 0,vI 0,vI 0,vI 0]⟩,.agg wKnown33],.agg ⟨[vI 0,vI 0,vI 0,vI 0,vJ 97,vJ 97]⟩⟩
theorem kKnown464:KKnown464.Ok Try.prog:=CF.of2 noNG mixed (l:=[KKnown40,KKnown41,KKnown77,KKnown463]) (.cons kKnown40 (.cons kKnown41 (.cons kKnown77 (.cons kKnown463 .nil)))) 3000 (by kernel_rfl)
end
end Go.Proofs.Ytnmjibcolnlkjaa
