/- PadKnown proved: the examples of the document hold. Conditions: none. -/
import Derived.Test.YtgmcdnekaiglcaaGreatMg6
import Derived.Deep.Slices
import Derived.WalkKit
import Derived.ProofKit
import Derived.OpenShut
import Derived.ChangeOld
import Derived.Below
import Derived.Deep.Strs
import Derived.ChangeMaps5
import Derived.Test.YtgmcdnekaiglcaaGreatRows
import Derived.Test.YtgmcdnekaiglcaaGreatMg4
set_option linter.unusedVariables false
set_option linter.unusedSimpArgs false
namespace Go.Proofs.YtgmcdnekaiglcaaGreat
open Go.Gi Go.RowKit
noncomputable section
set_option maxRecDepth 100000
set_option maxHeartbeats 4000000
def KKnown65:CF:=⟨78,[.agg wKnown10],.agg wKnown10⟩
theorem kKnown65:KKnown65.Ok Tryz.prog:=CF.of2 noNG mixed (l:=[KKnown63,KKnown64]) (.cons kKnown63 (.cons kKnown64 .nil)) 3000 (by kernel_rfl)
def KKnown66:CF:=⟨75,[.agg wKnown4,.agg wKnown10,.agg ⟨[vI 0,vI 1,vI 0,vI 0,vI 1]⟩],.tuple ⟨[.agg wKnown17,vI 0]⟩⟩
theorem kKnown66:KKnown66.Ok Tryz.prog:=CF.of2 noNG mixed (l:=[KKnown41,KKnown42,KKnown40,KKnown39]) (.cons kKnown41 (.cons kKnown42 (.cons kKnown40 (.cons kKnown39 .nil)))) 3000 (by kernel_rfl)
def KKnown67:CF:=⟨121,[vI 2],.func (.func 151) ⟨[]⟩ ⟨[]⟩⟩
theorem kKnown67:KKnown67.Ok Tryz.prog:=CF.of2 noNG mixed (l:=[]) .nil 3000 (by kernel_rfl)
def KKnown68:CF:=⟨75,[.agg wKnown4,.agg wKnown17,.agg ⟨[vI 1,vI 2,vI 0,vI 0,vJ 0]⟩],.tuple ⟨[.agg wKnown18,vI 0]⟩⟩
theorem kKnown68:KKnown68.Ok Tryz.prog:=CF.of2 noNG mixed (l:=[KKnown67]) (.cons kKnown67 .nil) 3000 (by kernel_rfl)
def KKnown69:CF:=⟨75,[.agg wKnown4,.agg wKnown18,.agg ⟨[vI 1,vI 2,vI 1,vI 1,vJ 0]⟩],.tuple ⟨[.agg wKnown19,vI 0]⟩⟩
theorem kKnown69:KKnown69.Ok Tryz.prog:=CF.of2 noNG mixed (l:=[KKnown67]) (.cons kKnown67 .nil) 3000 (by kernel_rfl)
def KKnown70:CF:=⟨177,[lstV ⟨[vJ 0,vI 0,vI 0,vI 1,vI 2,vI 1]⟩ 0 3 2,.agg ⟨[vI 0,vI 1]⟩],vT⟩
theorem kKnown70:KKnown70.Ok Tryz.prog:=CF.of2 noNG mixed (l:=[]) .nil 3000 (by kernel_rfl)
def KKnown71:CF:=⟨65,[.agg wKnown4,vI 1,vI 0],vF⟩
theorem kKnown71:KKnown71.Ok Tryz.prog:=CF.of2 noNG mixed (l:=[]) .nil 3000 (by kernel_rfl)
def KKnown72:CF:=⟨65,[.agg wKnown4,vI 1,vI 1],vF⟩
theorem kKnown72:KKnown72.Ok Tryz.prog:=CF.of2 noNG mixed (l:=[]) .nil 3000 (by kernel_rfl)
def KKnown73:CF:=⟨75,[.agg wKnown4,.agg wKnown19,.agg ⟨[vI 2,vI 1,vI 0,vI 1,vI 1]⟩],.tuple ⟨[.agg wKnown20,vI 0]⟩⟩
theorem kKnown73:KKnown73.Ok Tryz.prog:=CF.of2 noNG mixed (l:=[KKnown72,KKnown71,KKnown70,KKnown39]) (.cons kKnown72 (.cons kKnown71 (.cons kKnown70 (.cons kKnown39 .nil)))) 3000 (by kernel_rfl)
def KKnown74:CF:=⟨177,[lstV ⟨[vJ 0,vI 0,vI 0,vI 1,vI 2,vI 1]⟩ 0 3 2,.agg ⟨[vI 1,vI 2]⟩],vF⟩
theorem kKnown74:KKnown74.Ok Tryz.prog:=CF.of2 noNG mixed (l:=[]) .nil 3000 (by kernel_rfl)
def KKnown75:CF:=⟨177,[lstV ⟨[vJ 0,vI 0,vI 0,vI 1,vI 2,vI 1]⟩ 0 3 2,.agg ⟨[vI 2,vI 1]⟩],vT⟩
theorem kKnown75:KKnown75.Ok Tryz.prog:=CF.of2 noNG mixed (l:=[]) .nil 3000 (by kernel_rfl)
def KKnown76:CF:=⟨65,[.agg wKnown4,vI 2,vI 0],vT⟩
theorem kKnown76:KKnown76.Ok Tryz.prog:=CF.of2 noNG mixed (l:=[]) .nil 3000 (by kernel_rfl)
def KKnown77:CF:=⟨65,[.agg wKnown4,vI 2,vI 1],vT⟩
theorem kKnown77:KKnown77.Ok Tryz.prog:=CF.of2 noNG mixed (l:=[]) .nil 3000 (by kernel_rfl)
def KKnown78:CF:=⟨75,[.agg wKnown4,.agg wKnown20,.agg ⟨[vI 3,vI 1,vI 0,vI 2,vI 1]⟩],.tuple wKnown21⟩
theorem kKnown78:KKnown78.Ok Tryz.prog:=CF.of2 noNG mixed (l:=[KKnown39,KKnown74,KKnown75,KKnown76,KKnown77]) (.cons kKnown39 (.cons kKnown74 (.cons kKnown75 (.cons kKnown76 (.cons kKnown77 .nil))))) 3000 (by kernel_rfl)
def KKnown79:CF:=⟨75,[.agg wKnown4,.agg wKnown20,.agg ⟨[vI 4,vI 1,vI 2,vI 0,vJ 0]⟩],.tuple ⟨[.agg wKnown22,vI 0]⟩⟩
theorem kKnown79:KKnown79.Ok Tryz.prog:=CF.of2 noNG mixed (l:=[KKnown40,KKnown41,KKnown42,KKnown39]) (.cons kKnown40 (.cons kKnown41 (.cons kKnown42 (.cons kKnown39 .nil)))) 3000 (by kernel_rfl)
def KKnown80:CF:=⟨75,[.agg wKnown4,.agg wKnown22,.agg ⟨[vI 4,vI 2,vI 2,vI 2,vJ 0]⟩],.tuple ⟨[.agg wKnown23,vI 0]⟩⟩
theorem kKnown80:KKnown80.Ok Tryz.prog:=CF.of2 noNG mixed (l:=[KKnown67]) (.cons kKnown67 .nil) 3000 (by kernel_rfl)
def KKnown81:CF:=⟨121,[vI 8],.func (.func 157) ⟨[]⟩ ⟨[]⟩⟩
theorem kKnown81:KKnown81.Ok Tryz.prog:=CF.of2 noNG mixed (l:=[]) .nil 3000 (by kernel_rfl)
def KKnown82:CF:=⟨75,[.agg wKnown4,.agg wKnown23,.agg ⟨[vI 5,vI 8,vI 2,vI 1,vJ 0]⟩],.tuple ⟨[.agg wKnown24,vI 0]⟩⟩
theorem kKnown82:KKnown82.Ok Tryz.prog:=CF.of2 noNG mixed (l:=[KKnown81]) (.cons kKnown81 .nil) 3000 (by kernel_rfl)
def KKnown83:CF:=⟨121,[vI 5],.func (.func 154) ⟨[]⟩ ⟨[]⟩⟩
theorem kKnown83:KKnown83.Ok Tryz.prog:=CF.of2 noNG mixed (l:=[]) .nil 3000 (by kernel_rfl)
def KKnown84:CF:=⟨75,[.agg wKnown4,.agg wKnown24,.agg ⟨[vI 6,vI 5,vI 2,vI 0,vJ 0]⟩],.tuple wKnown25⟩
theorem kKnown84:KKnown84.Ok Tryz.prog:=CF.of2 noNG mixed (l:=[KKnown83]) (.cons kKnown83 .nil) 3000 (by kernel_rfl)
def KKnown85:CF:=⟨34,[.agg wKnown4,.agg wKnown10,lstV wKnown16 0 9 5],.tuple wKnown26⟩
theorem kKnown85:KKnown85.Ok Tryz.prog:=CF.of2 noNG mixed (l:=[KKnown38,KKnown54,KKnown55,KKnown56,KKnown57,KKnown58,KKnown59,KKnown60,KKnown61,KKnown62,KKnown65,KKnown66,KKnown68,KKnown69,KKnown73,KKnown78,KKnown79,KKnown80,KKnown82,KKnown84]) (.cons kKnown38 (.cons kKnown54 (.cons kKnown55 (.cons kKnown56 (.cons kKnown57 (.cons kKnown58 (.cons kKnown59 (.cons kKnown60 (.cons kKnown61 (.cons kKnown62 (.cons kKnown65 (.cons kKnown66 (.cons kKnown68 (.cons kKnown69 (.cons kKnown73 (.cons kKnown78 (.cons kKnown79 (.cons kKnown80 (.cons kKnown82 (.cons kKnown84 .nil)))))))))))))))))))) 3000 (by kernel_rfl)
def KKnown86:CF:=⟨72,[.agg wKnown27],vT⟩
theorem kKnown86:KKnown86.Ok Tryz.prog:=CF.of2 noNG mixed (l:=[]) .nil 3000 (by kernel_rfl)
def KKnown87:CF:=⟨168,[.agg wKnown27,vI 1],.func (.func 175) ⟨[]⟩ ⟨[dptV ⟨[vI 1]⟩ 0,dptV wKnown27 0]⟩⟩
theorem kKnown87:KKnown87.Ok Tryz.prog:=CF.of2 noNG mixed (l:=[]) .nil 3000 (by kernel_rfl)
def KKnown88:CF:=⟨147,[.agg wKnown27,vI 0,vI 1],vF⟩
theorem kKnown88:KKnown88.Ok Tryz.prog:=CF.of2 noNG mixed (l:=[KKnown87]) (.cons kKnown87 .nil) 3000 (by kernel_rfl)
def KKnown89:CF:=⟨147,[.agg wKnown27,vI 1,vI 1],vF⟩
theorem kKnown89:KKnown89.Ok Tryz.prog:=CF.of2 noNG mixed (l:=[KKnown87]) (.cons kKnown87 .nil) 3000 (by kernel_rfl)
def KKnown90:CF:=⟨168,[.agg wKnown27,vI 0],.func (.func 175) ⟨[]⟩ ⟨[dptV ⟨[vI 0]⟩ 0,dptV wKnown27 0]⟩⟩
theorem kKnown90:KKnown90.Ok Tryz.prog:=CF.of2 noNG mixed (l:=[]) .nil 3000 (by kernel_rfl)
def KKnown91:CF:=⟨147,[.agg wKnown27,vI 2,vI 0],vF⟩
theorem kKnown91:KKnown91.Ok Tryz.prog:=CF.of2 noNG mixed (l:=[KKnown90]) (.cons kKnown90 .nil) 3000 (by kernel_rfl)
def KKnown92:CF:=⟨104,[.agg wKnown27],vT⟩
theorem kKnown92:KKnown92.Ok Tryz.prog:=CF.of2 noNG mixed (l:=[KKnown88,KKnown89,KKnown91]) (.cons kKnown88 (.cons kKnown89 (.cons kKnown91 .nil))) 3000 (by kernel_rfl)
def KKnown93:CF:=⟨69,[.agg wKnown4,.agg wKnown24],.tuple ⟨[.agg wKnown27,vI 0]⟩⟩
theorem kKnown93:KKnown93.Ok Tryz.prog:=CF.of2 noNG mixed (l:=[KKnown26,KKnown92,KKnown86]) (.cons kKnown26 (.cons kKnown92 (.cons kKnown86 .nil))) 3000 (by kernel_rfl)
def KKnown94:CF:=⟨80,[.agg wKnown27,vI 0],lstV ⟨[vI 0,vI 1]⟩ 0 2 1⟩
theorem kKnown94:KKnown94.Ok Tryz.prog:=CF.of2 noNG mixed (l:=[]) .nil 3000 (by kernel_rfl)
def KKnown95:CF:=⟨37,[.agg wKnown4,.agg wKnown24,vI 0],.tuple ⟨[lstV ⟨[vI 0,vI 1]⟩ 0 2 1,vI 0]⟩⟩
theorem kKnown95:KKnown95.Ok Tryz.prog:=CF.of2 noNG mixed (l:=[KKnown93,KKnown94]) (.cons kKnown93 (.cons kKnown94 .nil)) 3000 (by kernel_rfl)
def KKnown96:CF:=⟨80,[.agg wKnown27,vI 1],lstV ⟨[vI 2]⟩ 0 1 1⟩
theorem kKnown96:KKnown96.Ok Tryz.prog:=CF.of2 noNG mixed (l:=[]) .nil 3000 (by kernel_rfl)
def KKnown97:CF:=⟨37,[.agg wKnown4,.agg wKnown24,vI 1],.tuple ⟨[lstV ⟨[vI 2]⟩ 0 1 1,vI 0]⟩⟩
theorem kKnown97:KKnown97.Ok Tryz.prog:=CF.of2 noNG mixed (l:=[KKnown96,KKnown93]) (.cons kKnown96 (.cons kKnown93 .nil)) 3000 (by kernel_rfl)
def KKnown98:CF:=⟨73,[.agg wKnown27],.slice none 0 0⟩
theorem kKnown98:KKnown98.Ok Tryz.prog:=CF.of2 noNG mixed (l:=[]) .nil 3000 (by kernel_rfl)
def KKnown99:CF:=⟨30,[.agg wKnown4,.agg wKnown24],.tuple ⟨[.slice none 0 0,vI 0]⟩⟩
theorem kKnown99:KKnown99.Ok Tryz.prog:=CF.of2 noNG mixed (l:=[KKnown26,KKnown86,KKnown98]) (.cons kKnown26 (.cons kKnown86 (.cons kKnown98 .nil))) 3000 (by kernel_rfl)
def KKnown100:CF:=⟨74,[.agg wKnown4,.agg ⟨[vI 6,vI 1,vI 0,vI 2,vJ 0]⟩],vI 0⟩
theorem kKnown100:KKnown100.Ok Tryz.prog:=CF.of2 noNG mixed (l:=[]) .nil 3000 (by kernel_rfl)
def KKnown101:CF:=⟨74,[.agg wKnown4,.agg ⟨[vI 10,vI 1,vI 0,vI 0,vI 1]⟩],vI 0⟩
theorem kKnown101:KKnown101.Ok Tryz.prog:=CF.of2 noNG mixed (l:=[]) .nil 3000 (by kernel_rfl)
def KKnown102:CF:=⟨74,[.agg wKnown4,.agg ⟨[vI 11,vI 3,vI 0,vI 0,vJ 0]⟩],vI 0⟩
theorem kKnown102:KKnown102.Ok Tryz.prog:=CF.of2 noNG mixed (l:=[]) .nil 3000 (by kernel_rfl)
def KKnown103:CF:=⟨74,[.agg wKnown4,.agg ⟨[vI 12,vI 3,vI 1,vI 1,vJ 0]⟩],vI 0⟩
theorem kKnown103:KKnown103.Ok Tryz.prog:=CF.of2 noNG mixed (l:=[]) .nil 3000 (by kernel_rfl)
def KKnown104:CF:=⟨74,[.agg wKnown4,.agg ⟨[vI 104,vI 5,vI 0,vI 0,vJ 0]⟩],vI 0⟩
theorem kKnown104:KKnown104.Ok Tryz.prog:=CF.of2 noNG mixed (l:=[]) .nil 3000 (by kernel_rfl)
def KKnown105:CF:=⟨74,[.agg wKnown4,.agg ⟨[vI 105,vI 5,vI 0,vI 0,vJ 0]⟩],vI 0⟩
theorem kKnown105:KKnown105.Ok Tryz.prog:=CF.of2 noNG mixed (l:=[]) .nil 3000 (by kernel_rfl)
def KKnown106:CF:=⟨74,[.agg wKnown4,.agg ⟨[vI 105,vI 5,vI 0,vI 1,vJ 0]⟩],vI 0⟩
theorem kKnown106:KKnown106.Ok Tryz.prog:=CF.of2 noNG mixed (l:=[]) .nil 3000 (by kernel_rfl)
def KKnown107:CF:=⟨74,[.agg wKnown4,.agg ⟨[vI 106,vI 1,vI 2,vI 1,vJ 0]⟩],vI 0⟩
theorem kKnown107:KKnown107.Ok Tryz.prog:=CF.of2 noNG mixed (l:=[]) .nil 3000 (by kernel_rfl)
def KKnown108:CF:=⟨74,[.agg wKnown4,.agg ⟨[vI 107,vI 1,vI 2,vI 2,vJ 0]⟩],vI 0⟩
theorem kKnown108:KKnown108.Ok Tryz.prog:=CF.of2 noNG mixed (l:=[]) .nil 3000 (by kernel_rfl)
def KKnown109:CF:=⟨74,[.agg wKnown4,.agg ⟨[vI 108,vI 1,vI 2,vI 0,vJ 0]⟩],vI 0⟩
theorem kKnown109:KKnown109.Ok Tryz.prog:=CF.of2 noNG mixed (l:=[]) .nil 3000 (by kernel_rfl)
def KKnown110:CF:=⟨74,[.agg wKnown4,.agg ⟨[vI 108,vI 2,vI 2,vI 0,vJ 0]⟩],vI 0⟩
theorem kKnown110:KKnown110.Ok Tryz.prog:=CF.of2 noNG mixed (l:=[]) .nil 3000 (by kernel_rfl)
def KKnown111:CF:=⟨74,[.agg wKnown4,.agg ⟨[vI 109,vI 9,vI 0,vI 1,vJ 0]⟩],vI 0⟩
theorem kKnown111:KKnown111.Ok Tryz.prog:=CF.of2 noNG mixed (l:=[]) .nil 3000 (by kernel_rfl)
def KKnown112:CF:=⟨75,[.agg wKnown4,.agg wKnown24,.agg ⟨[vI 6,vI 1,vI 0,vI 2,vJ 0]⟩],.tuple wKnown21⟩
theorem kKnown112:KKnown112.Ok Tryz.prog:=CF.of2 noNG mixed (l:=[KKnown39,KKnown74,KKnown75,KKnown76,KKnown77]) (.cons kKnown39 (.cons kKnown74 (.cons kKnown75 (.cons kKnown76 (.cons kKnown77 .nil))))) 3000 (by kernel_rfl)
def KKnown113:CF:=⟨177,[lstV ⟨[vJ 0,vI 0,vI 0,vI 1,vI 2,vI 1]⟩ 0 3 2,.agg ⟨[vI 1,vI 0]⟩],vF⟩
theorem kKnown113:KKnown113.Ok Tryz.prog:=CF.of2 noNG mixed (l:=[]) .nil 3000 (by kernel_rfl)
def KKnown114:CF:=⟨75,[.agg wKnown4,.agg wKnown24,.agg ⟨[vI 10,vI 1,vI 0,vI 0,vI 1]⟩],.tuple ⟨[.agg wKnown28,vI 0]⟩⟩
theorem kKnown114:KKnown114.Ok Tryz.prog:=CF.of2 noNG mixed (l:=[KKnown41,KKnown42,KKnown70,KKnown39,KKnown113]) (.cons kKnown41 (.cons kKnown42 (.cons kKnown70 (.cons kKnown39 (.cons kKnown113 .nil))))) 3000 (by kernel_rfl)
def KKnown115:CF:=⟨121,[vI 3],.func (.func 152) ⟨[]⟩ ⟨[]⟩⟩
theorem kKnown115:KKnown115.Ok Tryz.prog:=CF.of2 noNG mixed (l:=[]) .nil 3000 (by kernel_rfl)
def KKnown116:CF:=⟨75,[.agg wKnown4,.agg wKnown28,.agg ⟨[vI 11,vI 3,vI 0,vI 0,vJ 0]⟩],.tuple ⟨[.agg wKnown29,vI 0]⟩⟩
theorem kKnown116:KKnown116.Ok Tryz.prog:=CF.of2 noNG mixed (l:=[KKnown115]) (.cons kKnown115 .nil) 3000 (by kernel_rfl)
def KKnown117:CF:=⟨75,[.agg wKnown4,.agg wKnown29,.agg ⟨[vI 12,vI 3,vI 1,vI 1,vJ 0]⟩],.tuple ⟨[.agg wKnown30,vI 0]⟩⟩
theorem kKnown117:KKnown117.Ok Tryz.prog:=CF.of2 noNG mixed (l:=[KKnown115]) (.cons kKnown115 .nil) 3000 (by kernel_rfl)
def KKnown118:CF:=⟨75,[.agg wKnown4,.agg wKnown30,.agg ⟨[vI 104,vI 5,vI 0,vI 0,vJ 0]⟩],.tuple wKnown31⟩
theorem kKnown118:KKnown118.Ok Tryz.prog:=CF.of2 noNG mixed (l:=[KKnown83]) (.cons kKnown83 .nil) 3000 (by kernel_rfl)
def KKnown119:CF:=⟨75,[.agg wKnown4,.agg wKnown30,.agg ⟨[vI 105,vI 5,vI 0,vI 0,vJ 0]⟩],.tuple ⟨[.agg wKnown32,vI 0]⟩⟩
theorem kKnown119:KKnown119.Ok Tryz.prog:=CF.of2 noNG mixed (l:=[KKnown83]) (.cons kKnown83 .nil) 3000 (by kernel_rfl)
def KKnown120:CF:=⟨75,[.agg wKnown4,.agg wKnown32,.agg ⟨[vI 105,vI 5,vI 0,vI 1,vJ 0]⟩],.tuple wKnown21⟩
theorem kKnown120:KKnown120.Ok Tryz.prog:=CF.of2 noNG mixed (l:=[KKnown83]) (.cons kKnown83 .nil) 3000 (by kernel_rfl)
def KKnown121:CF:=⟨75,[.agg wKnown4,.agg wKnown32,.agg ⟨[vI 106,vI 1,vI 2,vI 1,vJ 0]⟩],.tuple ⟨[.agg wKnown33,vI 0]⟩⟩
theorem kKnown121:KKnown121.Ok Tryz.prog:=CF.of2 noNG mixed (l:=[KKnown72,KKnown71,KKnown70,KKnown39]) (.cons kKnown72 (.cons kKnown71 (.cons kKnown70 (.cons kKnown39 .nil)))) 3000 (by kernel_rfl)
def KKnown122:CF:=⟨75,[.agg wKnown4,.agg wKnown33,.agg ⟨[vI 107,vI 1,vI 2,vI 2,vJ 0]⟩],.tuple wKnown25⟩
theorem kKnown122:KKnown122.Ok Tryz.prog:=CF.of2 noNG mixed (l:=[KKnown74,KKnown75,KKnown39]) (.cons kKnown74 (.cons kKnown75 (.cons kKnown39 .nil))) 3000 (by kernel_rfl)
def KKnown123:CF:=⟨75,[.agg wKnown4,.agg wKnown33,.agg ⟨[vI 108,vI 1,vI 2,vI 0,vJ 0]⟩],.tuple ⟨[.agg wKnown34,vI 0]⟩⟩
theorem kKnown123:KKnown123.Ok Tryz.prog:=CF.of2 noNG mixed (l:=[KKnown70,KKnown39,KKnown41,KKnown42,KKnown113]) (.cons kKnown70 (.cons kKnown39 (.cons kKnown41 (.cons kKnown42 (.cons kKnown113 .nil))))) 3000 (by kernel_rfl)
def KKnown124:CF:=⟨173,[lstV ⟨[vI 0,vI 1]⟩ 0 2 1,vI 0],vT⟩
theorem kKnown124:KKnown124.Ok Tryz.prog:=CF.of2 noNG mixed (l:=[]) .nil 3000 (by kernel_rfl)
def KKnown125:CF:=⟨75,[.agg wKnown4,.agg wKnown34,.agg ⟨[vI 108,vI 2,vI 2,vI 0,vJ 0]⟩],.tuple wKnown35⟩
theorem kKnown125:KKnown125.Ok Tryz.prog:=CF.of2 noNG mixed (l:=[KKnown67,KKnown124]) (.cons kKnown67 (.cons kKnown124 .nil)) 3000 (by kernel_rfl)
def KKnown126:CF:=⟨121,[vI 9],.func (.func 158) ⟨[]⟩ ⟨[]⟩⟩
theorem kKnown126:KKnown126.Ok Tryz.prog:=CF.of2 noNG mixed (l:=[]) .nil 3000 (by kernel_rfl)
def KKnown127:CF:=⟨75,[.agg wKnown4,.agg wKnown34,.agg ⟨[vI 109,vI 9,vI 0,vI 1,vJ 0]⟩],.tuple ⟨[.agg wKnown36,vI 0]⟩⟩
theorem kKnown127:KKnown127.Ok Tryz.prog:=CF.of2 noNG mixed (l:=[KKnown126]) (.cons kKnown126 .nil) 3000 (by kernel_rfl)
def KKnown128:CF:=⟨34,[.agg wKnown4,.agg wKnown10,lstV wKnown16 0 21 5],.tuple ⟨[.agg wKnown36,lstV wKnown37 0 21 1,vI 0]⟩⟩
theorem kKnown128:KKnown128.Ok Tryz.prog:=CF.of2 noNG mixed (l:=[KKnown38,KKnown54,KKnown55,KKnown56,KKnown57,KKnown58,KKnown59,KKnown60,KKnown61,KKnown62,KKnown65,KKnown66,KKnown68,KKnown69,KKnown73,KKnown78,KKnown79,KKnown80,KKnown82,KKnown84,KKnown100,KKnown101,KKnown102,KKnown103,KKnown104,KKnown105,KKnown106,KKnown107,KKnown108,KKnown109,KKnown110,KKnown111,KKnown112,KKnown114,KKnown116,KKnown117,KKnown118,KKnown119,KKnown120,KKnown121,KKnown122,KKnown123,KKnown125,KKnown127]) (.cons kKnown38 (.cons kKnown54 (.cons kKnown55 (.cons kKnown56 (.cons kKnown57 (.cons kKnown58 (.cons kKnown59 (.cons kKnown60 (.cons kKnown61 (.cons kKnown62 (.cons kKnown65 (.cons kKnown66 (.cons kKnown68 (.cons kKnown69 (.cons kKnown73 (.cons kKnown78 (.cons kKnown79 (.cons kKnown80 (.cons kKnown82 (.cons kKnown84 (.cons kKnown100 (.cons kKnown101 (.cons kKnown102 (.cons kKnown103 (.cons kKnown104 (.cons kKnown105 (.cons kKnown106 (.cons kKnown107 (.cons kKnown108 (.cons kKnown109 (.cons kKnown110 (.cons kKnown111 (.cons kKnown112 (.cons kKnown114 (.cons kKnown116 (.cons kKnown117 (.cons kKnown118 (.cons kKnown119 (.cons kKnown120 (.cons kKnown121 (.cons kKnown122 (.cons kKnown123 (.cons kKnown125 (.cons kKnown127 .nil)))))))))))))))))))))))))))))))))))))))))))) 3000 (by kernel_rfl)
def KKnown129:CF:=⟨74,[.agg wKnown4,.agg ⟨[vI 110,vI 8,vI 2,vI 0,vJ 0]⟩],vI 0⟩
theorem kKnown129:KKnown129.Ok Tryz.prog:=CF.of2 noNG mixed (l:=[]) .nil 3000 (by kernel_rfl)
def KKnown130:CF:=⟨74,[.agg wKnown4,.agg ⟨[vI 111,vI 5,vI 0,vI 0,vJ 0]⟩],vI 0⟩
theorem kKnown130:KKnown130.Ok Tryz.prog:=CF.of2 noNG mixed (l:=[]) .nil 3000 (by kernel_rfl)
def KKnown131:CF:=⟨75,[.agg wKnown4,.agg wKnown36,.agg ⟨[vI 110,vI 8,vI 2,vI 0,vJ 0]⟩],.tuple ⟨[.agg wKnown38,vI 0]⟩⟩
theorem kKnown131:KKnown131.Ok Tryz.prog:=CF.of2 noNG mixed (l:=[KKnown81]) (.cons kKnown81 .nil) 3000 (by kernel_rfl)
def KKnown132:CF:=⟨75,[.agg wKnown4,.agg wKnown38,.agg ⟨[vI 111,vI 5,vI 0,vI 0,vJ 0]⟩],.tuple wKnown39⟩
theorem kKnown132:KKnown132.Ok Tryz.prog:=CF.of2 noNG mixed (l:=[KKnown83]) (.cons kKnown83 .nil) 3000 (by kernel_rfl)
def KKnown133:CF:=⟨34,[.agg wKnown4,.agg wKnown10,lstV wKnown16 0 23 5],.tuple ⟨[.agg wKnown38,lstV wKnown40 0 23 1,vI 0]⟩⟩
theorem kKnown133:KKnown133.Ok Tryz.prog:=CF.of2 noNG mixed (l:=[KKnown129,KKnown130,KKnown131,KKnown132,KKnown38,KKnown54,KKnown55,KKnown56,KKnown57,KKnown58,KKnown59,KKnown60,KKnown61,KKnown62,KKnown65,KKnown66,KKnown68,KKnown69,KKnown73,KKnown78,KKnown79,KKnown80,KKnown82,KKnown84,KKnown100,KKnown101,KKnown102,KKnown103,KKnown104,KKnown105,KKnown106,KKnown107,KKnown108,KKnown109,KKnown110,KKnown111,KKnown112,KKnown114,KKnown116,KKnown117,KKnown118,KKnown119,KKnown120,KKnown121,KKnown122,KKnown123,KKnown125,KKnown127]) (.cons kKnown129 (.cons kKnown130 (.cons kKnown131 (.cons kKnown132 (.cons kKnown38 (.cons kKnown54 (.cons kKnown55 (.cons kKnown56 (.cons kKnown57 (.cons kKnown58 (.cons kKnown59 (.cons kKnown60 (.cons kKnown61 (.cons kKnown62 (.cons kKnown65 (.cons kKnown66 (.cons kKnown68 (.cons kKnown69 (.cons kKnown73 (.cons kKnown78 (.cons kKnown79 (.cons kKnown80 (.cons kKnown82 (.cons kKnown84 (.cons kKnown100 (.cons kKnown101 (.cons kKnown102 (.cons kKnown103 (.cons kKnown104 (.cons kKnown105 (.cons kKnown106 (.cons kKnown107 (.cons kKnown108 (.cons kKnown109 (.cons kKnown110 (.cons kKnown111 (.cons kKnown112 (.cons kKnown114 (.cons kKnown116 (.cons kKnown117 (.cons kKnown118 (.cons kKnown119 (.cons kKnown120 (.cons kKnown121 (.cons kKnown122 (.cons kKnown123 (.cons kKnown125 (.cons kKnown127 .nil)))))))))))))))))))))))))))))))))))))))))))))))) 3000 (by kernel_rfl)
def KKnown134:CF:=⟨23,[.agg wKnown4,vI 3,vI 0],.tuple ⟨[vF,vI 4]⟩⟩
theorem kKnown134:KKnown134.Ok Tryz.prog:=CF.of2 noNG mixed (l:=[KKnown26]) (.cons kKnown26 .nil) 3000 (by kernel_rfl)
def KKnown135:CF:=⟨62,[],lstV wKnown40 0 23 1⟩
theorem kKnown135:KKnown135.Ok Tryz.prog:=CF.of2 noNG mixed (l:=[]) .nil 3000 (by kernel_rfl)
def KKnown136:CF:=⟨36,[lstV wKnown40 0 23 1,lstV wKnown40 0 23 1],vT⟩
theorem kKnown136:KKnown136.Ok Tryz.prog:=CF.of2 noNG mixed (l:=[]) .nil 3000 (by kernel_rfl)
def KKnown137:CF:=⟨22,[],vT⟩
theorem kKnown137:KKnown137.Ok Tryz.prog:=CF.of2 noNG mixed (l:=[KKnown0,KKnown133,KKnown134,KKnown135,KKnown136,KKnown53,KKnown30]) (.cons kKnown0 (.cons kKnown133 (.cons kKnown134 (.cons kKnown135 (.cons kKnown136 (.cons kKnown53 (.cons kKnown30 .nil))))))) 3000 (by kernel_rfl)
def KKnown138:CF:=⟨9,[],vT⟩
theorem kKnown138:KKnown138.Ok Tryz.prog:=CF.of2 noNG mixed (l:=[KKnown53,KKnown0,KKnown97,KKnown128,KKnown99,KKnown137,KKnown46,KKnown52,KKnown85,KKnown27,KKnown28,KKnown29,KKnown30,KKnown95]) (.cons kKnown53 (.cons kKnown0 (.cons kKnown97 (.cons kKnown128 (.cons kKnown99 (.cons kKnown137 (.cons kKnown46 (.cons kKnown52 (.cons kKnown85 (.cons kKnown27 (.cons kKnown28 (.cons kKnown29 (.cons kKnown30 (.cons kKnown95 .nil)))))))))))))) 3000 (by kernel_rfl)
end
end Go.Proofs.YtgmcdnekaiglcaaGreat
namespace Go.Proofs.YtgmcdnekaiglcaaGreat
open Go.ChangeShapes Go.WideShapes Go.ChangeAt Go.RowKit Go.Gi
set_option maxRecDepth 100000
theorem own:ownKnob Tryz.prog.godebug=none:=by kernel_rfl
theorem law9:Fact Tryz.prog (.call 9 ⟨[]⟩ ⟨[],0,[]⟩) (.ret (.bool true) ⟨[],0,[]⟩):=kKnown138 _
theorem lifted9 (os:Os)(started:os.Started)(H:Type)(enc:TypeId×Value→H) :
    ReturnsInHanded {} Tryz.checked os 9 .any (Rows.padKnownSpec.pre6 enc Tryz.prog Tryz.f9 Rows.padKnownRow.domain false) (Rows.padKnownSpec.post enc Tryz.prog Tryz.f9 false true false false):=by
  refine returnsInHanded_of_change (C:=Tryz.checked) own started (by kernel_rfl) Tryz.func9
    (ChangeSpec.witness6 (enc:=enc) (C:=Tryz.checked) false ⟨#[],#[],[]⟩ 20 (by kernel_rfl) (by kernel_rfl) (by kernel_rfl) (by kernel_rfl)) ?_
  intro W base args ds gs before hval0 hW hcnd _
  have hW':=hW
  obtain ⟨p,q,hA0,hV,rfl,hfz,hnd⟩:=hW
  have hA:DataW.TrodAll enc Tryz.prog W 0 (fun _=>true) true Tryz.f9.params.toList args.toList ds p:=hA0
  rw [Tryz.params9]at hA
  obtain ⟨hargs,rfl,rfl⟩:=trodAll_nil hA
  obtain rfl:args=#[]:=by cases args;simp_all
  obtain ⟨rfl,rfl⟩:=trodVars_none hV
  refine (calls_frozen law9 rfl (VRs.nil _)).mono fun e W' ⟨he,bel⟩=>?_
  subst he
  exact ⟨_,rfl,_,_,_,[],_,[],hW',trodAll_mk1 (shut_bool Tryz.underlying4 _),trodAll_mk0,rfl,bel.frame _,fun h=>by cases h⟩
theorem over9:Rows.padKnownRow.holds Tryz.pinned (OpenSpec.ofChange Rows.padKnownSpec) :=
  OpenClaim.holds_of_wide 9 Tryz.f9 rfl rfl rfl rfl rfl rfl rfl ⟨rfl,rfl,rfl,rfl,rfl⟩ rfl rfl rfl rfl rfl (by kernel_rfl) Tryz.func9 (by kernel_rfl)
    (of_decide_eq_true (by kernel_rfl)) (by unfold Func.isWrapper;first | (rw [if_pos (by decide +kernel)];kernel_rfl) | (rw [if_neg (by decide +kernel)];exact ⟨rfl,rfl⟩))
    (fun os started H enc _=>lifted9 os started H enc)
theorem padKnownProved:Rows.PadKnownSaid:=over9
end Go.Proofs.YtgmcdnekaiglcaaGreat
