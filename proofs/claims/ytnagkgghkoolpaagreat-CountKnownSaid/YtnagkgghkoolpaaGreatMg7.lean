/- CountKnown proved: the examples of the document hold. Conditions: none. -/
import Derived.Test.YtnagkgghkoolpaaGreatMg6
import Derived.Deep.Slices
import Derived.WalkKit
import Derived.ProofKit
import Derived.OpenShut
import Derived.ChangeOld
import Derived.Below
import Derived.Deep.Strs
import Derived.ChangeMaps5
import Derived.Test.YtnagkgghkoolpaaGreatRows
import Derived.Test.YtnagkgghkoolpaaGreatMg4
set_option linter.unusedVariables false
set_option linter.unusedSimpArgs false
namespace Go.Proofs.YtnagkgghkoolpaaGreat
open Go.Gi Go.RowKit
noncomputable section
set_option maxRecDepth 100000
set_option maxHeartbeats 4000000
def KKnown0:CF:=⟨73,[],.agg wKnown4⟩
theorem kKnown0:KKnown0.Ok Tryz.prog:=CF.of2 noNG mixed (l:=[]) .nil 3000 (by kernel_rfl)
def KKnown1:CF:=⟨38,[],.agg wKnown7⟩
theorem kKnown1:KKnown1.Ok Tryz.prog:=CF.of2 noNG mixed (l:=[KKnown0]) (.cons kKnown0 .nil) 3000 (by kernel_rfl)
def KKnown2:CF:=⟨39,[],lstV wKnown8 0 16 8⟩
theorem kKnown2:KKnown2.Ok Tryz.prog:=CF.of2 noNG mixed (l:=[]) .nil 3000 (by kernel_rfl)
def KKnown3:CF:=⟨163,[.string ⟨⟨[98,117,110,107,101,114]⟩⟩],vT⟩
theorem kKnown3:KKnown3.Ok Tryz.prog:=CF.of2 noNG mixed (l:=[]) .nil 3000 (by kernel_rfl)
def KKnown4:CF:=⟨151,[.agg wKnown9],vI 0⟩
theorem kKnown4:KKnown4.Ok Tryz.prog:=CF.of2 noNG mixed (l:=[]) .nil 3000 (by kernel_rfl)
def KKnown5:CF:=⟨163,[.string ⟨⟨[114,111,97,100]⟩⟩],vT⟩
theorem kKnown5:KKnown5.Ok Tryz.prog:=CF.of2 noNG mixed (l:=[]) .nil 3000 (by kernel_rfl)
def KKnown6:CF:=⟨151,[.agg wKnown10],vI 0⟩
theorem kKnown6:KKnown6.Ok Tryz.prog:=CF.of2 noNG mixed (l:=[]) .nil 3000 (by kernel_rfl)
def KKnown7:CF:=⟨163,[.string ⟨⟨[114,97,105,108]⟩⟩],vT⟩
theorem kKnown7:KKnown7.Ok Tryz.prog:=CF.of2 noNG mixed (l:=[]) .nil 3000 (by kernel_rfl)
def KKnown8:CF:=⟨151,[.agg wKnown11],vI 0⟩
theorem kKnown8:KKnown8.Ok Tryz.prog:=CF.of2 noNG mixed (l:=[]) .nil 3000 (by kernel_rfl)
def KKnown9:CF:=⟨149,[lstV wKnown0 0 3 8,.func (.func 150) ⟨[]⟩ ⟨[]⟩,.func (.func 151) ⟨[]⟩ ⟨[]⟩],.tuple ⟨[vI 0,vI 0]⟩⟩
theorem kKnown9:KKnown9.Ok Tryz.prog:=CF.of2 noNG mixed (l:=[KKnown3,KKnown4,KKnown5,KKnown6,KKnown7,KKnown8]) (.cons kKnown3 (.cons kKnown4 (.cons kKnown5 (.cons kKnown6 (.cons kKnown7 (.cons kKnown8 .nil)))))) 3000 (by kernel_rfl)
def KKnown10:CF:=⟨81,[.agg wKnown4],.tuple ⟨[vI 0,vI 0]⟩⟩
theorem kKnown10:KKnown10.Ok Tryz.prog:=CF.of2 noNG mixed (l:=[KKnown9]) (.cons kKnown9 .nil) 3000 (by kernel_rfl)
def KKnown11:CF:=⟨82,[.agg wKnown4],.tuple ⟨[vI 0,vI 0]⟩⟩
theorem kKnown11:KKnown11.Ok Tryz.prog:=CF.of2 noNG mixed (l:=[]) .nil 3000 (by kernel_rfl)
def KKnown12:CF:=⟨163,[.string ⟨⟨[97,110,110]⟩⟩],vT⟩
theorem kKnown12:KKnown12.Ok Tryz.prog:=CF.of2 noNG mixed (l:=[]) .nil 3000 (by kernel_rfl)
def KKnown13:CF:=⟨163,[.string ⟨⟨[98,111,98]⟩⟩],vT⟩
theorem kKnown13:KKnown13.Ok Tryz.prog:=CF.of2 noNG mixed (l:=[]) .nil 3000 (by kernel_rfl)
def KKnown14:CF:=⟨163,[.string ⟨⟨[101,118,101]⟩⟩],vT⟩
theorem kKnown14:KKnown14.Ok Tryz.prog:=CF.of2 noNG mixed (l:=[]) .nil 3000 (by kernel_rfl)
def KKnown15:CF:=⟨152,[lstV wKnown1 0 3 2,.func (.func 153) ⟨[]⟩ ⟨[]⟩,.func (.func 154) ⟨[]⟩ ⟨[]⟩],.tuple ⟨[vI 0,vI 0]⟩⟩
theorem kKnown15:KKnown15.Ok Tryz.prog:=CF.of2 noNG mixed (l:=[KKnown12,KKnown13,KKnown14]) (.cons kKnown12 (.cons kKnown13 (.cons kKnown14 .nil))) 3000 (by kernel_rfl)
def KKnown16:CF:=⟨83,[.agg wKnown4],.tuple ⟨[vI 0,vI 0]⟩⟩
theorem kKnown16:KKnown16.Ok Tryz.prog:=CF.of2 noNG mixed (l:=[KKnown15]) (.cons kKnown15 .nil) 3000 (by kernel_rfl)
def KKnown17:CF:=⟨163,[.string ⟨⟨[114,101,100]⟩⟩],vT⟩
theorem kKnown17:KKnown17.Ok Tryz.prog:=CF.of2 noNG mixed (l:=[]) .nil 3000 (by kernel_rfl)
def KKnown18:CF:=⟨163,[.string ⟨⟨[98,108,117,101]⟩⟩],vT⟩
theorem kKnown18:KKnown18.Ok Tryz.prog:=CF.of2 noNG mixed (l:=[]) .nil 3000 (by kernel_rfl)
def KKnown19:CF:=⟨163,[.string ⟨⟨[103,114,101,121]⟩⟩],vT⟩
theorem kKnown19:KKnown19.Ok Tryz.prog:=CF.of2 noNG mixed (l:=[]) .nil 3000 (by kernel_rfl)
def KKnown20:CF:=⟨155,[lstV wKnown2 0 3 1,.func (.func 156) ⟨[]⟩ ⟨[]⟩,.func (.func 157) ⟨[]⟩ ⟨[]⟩],.tuple ⟨[vI 0,vI 0]⟩⟩
theorem kKnown20:KKnown20.Ok Tryz.prog:=CF.of2 noNG mixed (l:=[KKnown17,KKnown18,KKnown19]) (.cons kKnown17 (.cons kKnown18 (.cons kKnown19 .nil))) 3000 (by kernel_rfl)
def KKnown21:CF:=⟨84,[.agg wKnown4],.tuple ⟨[vI 0,vI 0]⟩⟩
theorem kKnown21:KKnown21.Ok Tryz.prog:=CF.of2 noNG mixed (l:=[KKnown20]) (.cons kKnown20 .nil) 3000 (by kernel_rfl)
def KKnown22:CF:=⟨163,[.string ⟨⟨[109,111,116,111,114]⟩⟩],vT⟩
theorem kKnown22:KKnown22.Ok Tryz.prog:=CF.of2 noNG mixed (l:=[]) .nil 3000 (by kernel_rfl)
def KKnown23:CF:=⟨161,[.agg wKnown4,.agg wKnown12],vI 0⟩
theorem kKnown23:KKnown23.Ok Tryz.prog:=CF.of2 noNG mixed (l:=[]) .nil 3000 (by kernel_rfl)
def KKnown24:CF:=⟨163,[.string ⟨⟨[99,104,117,116,101]⟩⟩],vT⟩
theorem kKnown24:KKnown24.Ok Tryz.prog:=CF.of2 noNG mixed (l:=[]) .nil 3000 (by kernel_rfl)
def KKnown25:CF:=⟨161,[.agg wKnown4,.agg wKnown13],vI 0⟩
theorem kKnown25:KKnown25.Ok Tryz.prog:=CF.of2 noNG mixed (l:=[]) .nil 3000 (by kernel_rfl)
def KKnown26:CF:=⟨85,[.agg wKnown4],.tuple ⟨[vI 0,vI 0]⟩⟩
theorem kKnown26:KKnown26.Ok Tryz.prog:=CF.of2 noNG mixed (l:=[KKnown24,KKnown25,KKnown22,KKnown23]) (.cons kKnown24 (.cons kKnown25 (.cons kKnown22 (.cons kKnown23 .nil)))) 3000 (by kernel_rfl)
def KKnown27:CF:=⟨86,[.agg wKnown4],.tuple ⟨[vI 0,vI 0]⟩⟩
theorem kKnown27:KKnown27.Ok Tryz.prog:=CF.of2 noNG mixed (l:=[]) .nil 3000 (by kernel_rfl)
def KKnown28:CF:=⟨45,[.agg wKnown4],.tuple ⟨[vI 0,vI 0,vI 0]⟩⟩
theorem kKnown28:KKnown28.Ok Tryz.prog:=CF.of2 noNG mixed (l:=[KKnown10,KKnown11,KKnown16,KKnown21,KKnown26,KKnown27]) (.cons kKnown10 (.cons kKnown11 (.cons kKnown16 (.cons kKnown21 (.cons kKnown26 (.cons kKnown27 .nil)))))) 3000 (by kernel_rfl)
def KKnown29:CF:=⟨163,[.string ⟨⟨[114,97,110,103,101]⟩⟩],vT⟩
theorem kKnown29:KKnown29.Ok Tryz.prog:=CF.of2 noNG mixed (l:=[]) .nil 3000 (by kernel_rfl)
def KKnown30:CF:=⟨163,[.string ⟨⟨[115,97,102,101,116,121]⟩⟩],vT⟩
theorem kKnown30:KKnown30.Ok Tryz.prog:=CF.of2 noNG mixed (l:=[]) .nil 3000 (by kernel_rfl)
def KKnown31:CF:=⟨87,[lstV wKnown5 0 2 1,.func (.func 88) ⟨[]⟩ ⟨[]⟩],.tuple ⟨[vI 0,vI 0]⟩⟩
theorem kKnown31:KKnown31.Ok Tryz.prog:=CF.of2 noNG mixed (l:=[KKnown29,KKnown30]) (.cons kKnown29 (.cons kKnown30 .nil)) 3000 (by kernel_rfl)
def KKnown32:CF:=⟨47,[.agg wKnown7],.tuple ⟨[vI 0,vI 0]⟩⟩
theorem kKnown32:KKnown32.Ok Tryz.prog:=CF.of2 noNG mixed (l:=[KKnown31]) (.cons kKnown31 .nil) 3000 (by kernel_rfl)
def KKnown33:CF:=⟨163,[.string ⟨⟨[109,97,105,110]⟩⟩],vT⟩
theorem kKnown33:KKnown33.Ok Tryz.prog:=CF.of2 noNG mixed (l:=[]) .nil 3000 (by kernel_rfl)
def KKnown34:CF:=⟨48,[.agg wKnown7],.tuple ⟨[vI 0,vI 0]⟩⟩
theorem kKnown34:KKnown34.Ok Tryz.prog:=CF.of2 noNG mixed (l:=[KKnown33]) (.cons kKnown33 .nil) 3000 (by kernel_rfl)
def KKnown35:CF:=⟨163,[.string ⟨⟨[102,105,108,108]⟩⟩],vT⟩
theorem kKnown35:KKnown35.Ok Tryz.prog:=CF.of2 noNG mixed (l:=[]) .nil 3000 (by kernel_rfl)
def KKnown36:CF:=⟨43,[.agg wKnown4],.tuple ⟨[.agg wKnown14,vI 0]⟩⟩
theorem kKnown36:KKnown36.Ok Tryz.prog:=CF.of2 noNG mixed (l:=[KKnown28]) (.cons kKnown28 .nil) 3000 (by kernel_rfl)
def KKnown37:CF:=⟨171,[.agg wKnown4,lstV ⟨[]⟩ 0 0 1],vI 0⟩
theorem kKnown37:KKnown37.Ok Tryz.prog:=CF.of2 noNG mixed (l:=[KKnown36]) (.cons kKnown36 .nil) 3000 (by kernel_rfl)
def KKnown38:CF:=⟨92,[.agg wKnown7,vI 0],vI 0⟩
theorem kKnown38:KKnown38.Ok Tryz.prog:=CF.of2 noNG mixed (l:=[KKnown37]) (.cons kKnown37 .nil) 3000 (by kernel_rfl)
def KKnown39:CF:=⟨163,[.string ⟨⟨[112,111,119,101,114]⟩⟩],vT⟩
theorem kKnown39:KKnown39.Ok Tryz.prog:=CF.of2 noNG mixed (l:=[]) .nil 3000 (by kernel_rfl)
def KKnown40:CF:=⟨92,[.agg wKnown7,vI 1],vI 0⟩
theorem kKnown40:KKnown40.Ok Tryz.prog:=CF.of2 noNG mixed (l:=[KKnown37]) (.cons kKnown37 .nil) 3000 (by kernel_rfl)
def KKnown41:CF:=⟨163,[.string ⟨⟨[99,104,101,99,107]⟩⟩],vT⟩
theorem kKnown41:KKnown41.Ok Tryz.prog:=CF.of2 noNG mixed (l:=[]) .nil 3000 (by kernel_rfl)
def KKnown42:CF:=⟨92,[.agg wKnown7,vI 2],vI 0⟩
theorem kKnown42:KKnown42.Ok Tryz.prog:=CF.of2 noNG mixed (l:=[KKnown37]) (.cons kKnown37 .nil) 3000 (by kernel_rfl)
def KKnown43:CF:=⟨163,[.string ⟨⟨[112,111,108,108]⟩⟩],vT⟩
theorem kKnown43:KKnown43.Ok Tryz.prog:=CF.of2 noNG mixed (l:=[]) .nil 3000 (by kernel_rfl)
def KKnown44:CF:=⟨92,[.agg wKnown7,vI 3],vI 0⟩
theorem kKnown44:KKnown44.Ok Tryz.prog:=CF.of2 noNG mixed (l:=[KKnown37]) (.cons kKnown37 .nil) 3000 (by kernel_rfl)
def KKnown45:CF:=⟨163,[.string ⟨⟨[108,97,117,110,99,104]⟩⟩],vT⟩
theorem kKnown45:KKnown45.Ok Tryz.prog:=CF.of2 noNG mixed (l:=[]) .nil 3000 (by kernel_rfl)
def KKnown46:CF:=⟨92,[.agg wKnown7,vI 4],vI 0⟩
theorem kKnown46:KKnown46.Ok Tryz.prog:=CF.of2 noNG mixed (l:=[KKnown37]) (.cons kKnown37 .nil) 3000 (by kernel_rfl)
def KKnown47:CF:=⟨49,[.agg wKnown7],.tuple ⟨[vI 0,vI 0]⟩⟩
theorem kKnown47:KKnown47.Ok Tryz.prog:=CF.of2 noNG mixed (l:=[KKnown35,KKnown38,KKnown39,KKnown40,KKnown41,KKnown42,KKnown43,KKnown44,KKnown45,KKnown46]) (.cons kKnown35 (.cons kKnown38 (.cons kKnown39 (.cons kKnown40 (.cons kKnown41 (.cons kKnown42 (.cons kKnown43 (.cons kKnown44 (.cons kKnown45 (.cons kKnown46 .nil)))))))))) 3000 (by kernel_rfl)
def KKnown48:CF:=⟨18,[.agg wKnown7],.tuple ⟨[vI 0,vI 0,vI 0]⟩⟩
theorem kKnown48:KKnown48.Ok Tryz.prog:=CF.of2 noNG mixed (l:=[KKnown32,KKnown34,KKnown28,KKnown47]) (.cons kKnown32 (.cons kKnown34 (.cons kKnown28 (.cons kKnown47 .nil)))) 3000 (by kernel_rfl)
def KKnown49:CF:=⟨23,[.agg wKnown7],.tuple ⟨[lstV ⟨[vI 0,vI 2,vI 3,vI 4]⟩ 0 4 1,vI 0]⟩⟩
theorem kKnown49:KKnown49.Ok Tryz.prog:=CF.of2 noNG mixed (l:=[KKnown48]) (.cons kKnown48 .nil) 3000 (by kernel_rfl)
def KKnown50:CF:=⟨20,[.agg wKnown7],.tuple ⟨[.agg wKnown15,vI 0]⟩⟩
theorem kKnown50:KKnown50.Ok Tryz.prog:=CF.of2 noNG mixed (l:=[KKnown48,KKnown36]) (.cons kKnown48 (.cons kKnown36 .nil)) 3000 (by kernel_rfl)
def KKnown51:CF:=⟨62,[.agg wKnown7,.slice none 0 0],.tuple ⟨[.agg wKnown16,.slice none 0 0,vI 0]⟩⟩
theorem kKnown51:KKnown51.Ok Tryz.prog:=CF.of2 noNG mixed (l:=[KKnown50]) (.cons kKnown50 .nil) 3000 (by kernel_rfl)
def KKnown52:CF:=⟨117,[.agg wKnown16,vI 0],vF⟩
theorem kKnown52:KKnown52.Ok Tryz.prog:=CF.of2 noNG mixed (l:=[]) .nil 3000 (by kernel_rfl)
def KKnown53:CF:=⟨126,[.agg wKnown16,vI 0],vF⟩
theorem kKnown53:KKnown53.Ok Tryz.prog:=CF.of2 noNG mixed (l:=[]) .nil 3000 (by kernel_rfl)
def KKnown54:CF:=⟨117,[.agg wKnown16,vI 1],vF⟩
theorem kKnown54:KKnown54.Ok Tryz.prog:=CF.of2 noNG mixed (l:=[]) .nil 3000 (by kernel_rfl)
def KKnown55:CF:=⟨126,[.agg wKnown16,vI 1],vF⟩
theorem kKnown55:KKnown55.Ok Tryz.prog:=CF.of2 noNG mixed (l:=[]) .nil 3000 (by kernel_rfl)
def KKnown56:CF:=⟨117,[.agg wKnown16,vI 2],vF⟩
theorem kKnown56:KKnown56.Ok Tryz.prog:=CF.of2 noNG mixed (l:=[]) .nil 3000 (by kernel_rfl)
def KKnown57:CF:=⟨126,[.agg wKnown16,vI 2],vF⟩
theorem kKnown57:KKnown57.Ok Tryz.prog:=CF.of2 noNG mixed (l:=[]) .nil 3000 (by kernel_rfl)
def KKnown58:CF:=⟨117,[.agg wKnown16,vI 3],vF⟩
theorem kKnown58:KKnown58.Ok Tryz.prog:=CF.of2 noNG mixed (l:=[]) .nil 3000 (by kernel_rfl)
def KKnown59:CF:=⟨126,[.agg wKnown16,vI 3],vF⟩
theorem kKnown59:KKnown59.Ok Tryz.prog:=CF.of2 noNG mixed (l:=[]) .nil 3000 (by kernel_rfl)
def KKnown60:CF:=⟨117,[.agg wKnown16,vI 4],vF⟩
theorem kKnown60:KKnown60.Ok Tryz.prog:=CF.of2 noNG mixed (l:=[]) .nil 3000 (by kernel_rfl)
def KKnown61:CF:=⟨126,[.agg wKnown16,vI 4],vF⟩
theorem kKnown61:KKnown61.Ok Tryz.prog:=CF.of2 noNG mixed (l:=[]) .nil 3000 (by kernel_rfl)
def KKnown62:CF:=⟨124,[.agg wKnown16,vI 0],lstV ⟨[vI 100,vI 110,vI 150,vI 150,vI 155]⟩ 0 5 1⟩
theorem kKnown62:KKnown62.Ok Tryz.prog:=CF.of2 noNG mixed (l:=[KKnown52,KKnown53,KKnown54,KKnown55,KKnown56,KKnown57,KKnown58,KKnown59,KKnown60,KKnown61]) (.cons kKnown52 (.cons kKnown53 (.cons kKnown54 (.cons kKnown55 (.cons kKnown56 (.cons kKnown57 (.cons kKnown58 (.cons kKnown59 (.cons kKnown60 (.cons kKnown61 .nil)))))))))) 3000 (by kernel_rfl)
def KKnown63:CF:=⟨200,[lstV wKnown6 0 5 9],.func (.func 250) ⟨[]⟩ ⟨[dptV ⟨[lstV wKnown6 0 5 9]⟩ 0]⟩⟩
theorem kKnown63:KKnown63.Ok Tryz.prog:=CF.of2 noNG mixed (l:=[]) .nil 3000 (by kernel_rfl)
def KKnown64:CF:=⟨125,[.agg wKnown16],lstV ⟨[vT,vT,vT,vT,vT]⟩ 0 5 1⟩
theorem kKnown64:KKnown64.Ok Tryz.prog:=CF.of2 noNG mixed (l:=[KKnown63]) (.cons kKnown63 .nil) 3000 (by kernel_rfl)
def KKnown65:CF:=⟨65,[.agg wKnown16],.func (.func 116) ⟨[]⟩ ⟨[dptV wKnown16 0]⟩⟩
theorem kKnown65:KKnown65.Ok Tryz.prog:=CF.of2 noNG mixed (l:=[]) .nil 3000 (by kernel_rfl)
def KKnown66:CF:=⟨68,[.agg wKnown16,vI 0],.tuple ⟨[vI 200,vT]⟩⟩
theorem kKnown66:KKnown66.Ok Tryz.prog:=CF.of2 noNG mixed (l:=[KKnown64,KKnown65,KKnown62]) (.cons kKnown64 (.cons kKnown65 (.cons kKnown62 .nil))) 3000 (by kernel_rfl)
def KKnown67:CF:=⟨34,[.agg wKnown7,.slice none 0 0,vI 0],.tuple ⟨[vI 200,vI 0]⟩⟩
theorem kKnown67:KKnown67.Ok Tryz.prog:=CF.of2 noNG mixed (l:=[KKnown66,KKnown51]) (.cons kKnown66 (.cons kKnown51 .nil)) 3000 (by kernel_rfl)
def KKnown68:CF:=⟨124,[.agg wKnown16,vI 240],lstV ⟨[vI 340,vI 350,vI 390,vI 390,vI 395]⟩ 0 5 1⟩
theorem kKnown68:KKnown68.Ok Tryz.prog:=CF.of2 noNG mixed (l:=[KKnown52,KKnown53,KKnown54,KKnown55,KKnown56,KKnown57,KKnown58,KKnown59,KKnown60,KKnown61]) (.cons kKnown52 (.cons kKnown53 (.cons kKnown54 (.cons kKnown55 (.cons kKnown56 (.cons kKnown57 (.cons kKnown58 (.cons kKnown59 (.cons kKnown60 (.cons kKnown61 .nil)))))))))) 3000 (by kernel_rfl)
def KKnown69:CF:=⟨68,[.agg wKnown16,vI 240],.tuple ⟨[vI 395,vT]⟩⟩
theorem kKnown69:KKnown69.Ok Tryz.prog:=CF.of2 noNG mixed (l:=[KKnown64,KKnown65,KKnown68]) (.cons kKnown64 (.cons kKnown65 (.cons kKnown68 .nil))) 3000 (by kernel_rfl)
def KKnown70:CF:=⟨34,[.agg wKnown7,.slice none 0 0,vI 240],.tuple ⟨[vI 395,vI 0]⟩⟩
theorem kKnown70:KKnown70.Ok Tryz.prog:=CF.of2 noNG mixed (l:=[KKnown51,KKnown69]) (.cons kKnown51 (.cons kKnown69 .nil)) 3000 (by kernel_rfl)
def KKnown71:CF:=⟨124,[.agg wKnown16,vI 241],lstV ⟨[vI 341,vI 351,vI 391,vI 391,vI 396]⟩ 0 5 1⟩
theorem kKnown71:KKnown71.Ok Tryz.prog:=CF.of2 noNG mixed (l:=[KKnown52,KKnown53,KKnown54,KKnown55,KKnown56,KKnown57,KKnown58,KKnown59,KKnown60,KKnown61]) (.cons kKnown52 (.cons kKnown53 (.cons kKnown54 (.cons kKnown55 (.cons kKnown56 (.cons kKnown57 (.cons kKnown58 (.cons kKnown59 (.cons kKnown60 (.cons kKnown61 .nil)))))))))) 3000 (by kernel_rfl)
def KKnown72:CF:=⟨68,[.agg wKnown16,vI 241],.tuple ⟨[vI 396,vT]⟩⟩
theorem kKnown72:KKnown72.Ok Tryz.prog:=CF.of2 noNG mixed (l:=[KKnown64,KKnown65,KKnown71]) (.cons kKnown64 (.cons kKnown65 (.cons kKnown71 .nil))) 3000 (by kernel_rfl)
def KKnown73:CF:=⟨34,[.agg wKnown7,.slice none 0 0,vI 241],.tuple ⟨[vI 396,vI 0]⟩⟩
theorem kKnown73:KKnown73.Ok Tryz.prog:=CF.of2 noNG mixed (l:=[KKnown72,KKnown51]) (.cons kKnown72 (.cons kKnown51 .nil)) 3000 (by kernel_rfl)
def KKnown74:CF:=⟨122,[vI 1],.func (.func 191) ⟨[]⟩ ⟨[]⟩⟩
theorem kKnown74:KKnown74.Ok Tryz.prog:=CF.of2 noNG mixed (l:=[]) .nil 3000 (by kernel_rfl)
def KKnown75:CF:=⟨66,[.agg wKnown16,.agg ⟨[vI 0,vI 1,vI 0,vI 0,vI 0,vI 0,vI 0,vI 0]⟩],.tuple ⟨[.agg wKnown17,vI 0]⟩⟩
theorem kKnown75:KKnown75.Ok Tryz.prog:=CF.of2 noNG mixed (l:=[KKnown74]) (.cons kKnown74 .nil) 3000 (by kernel_rfl)
def KKnown76:CF:=⟨66,[.agg wKnown16,.agg ⟨[vI 0,vI 1,vI 1,vI 0,vI 0,vI 0,vI 0,vI 0]⟩],.tuple ⟨[.agg wKnown18,vI 182]⟩⟩
theorem kKnown76:KKnown76.Ok Tryz.prog:=CF.of2 noNG mixed (l:=[KKnown74]) (.cons kKnown74 .nil) 3000 (by kernel_rfl)
def KKnown77:CF:=⟨66,[.agg wKnown16,.agg ⟨[vI 0,vI 1,vI 2,vI 0,vI 0,vI 0,vI 0,vI 0]⟩],.tuple ⟨[.agg wKnown18,vI 182]⟩⟩
theorem kKnown77:KKnown77.Ok Tryz.prog:=CF.of2 noNG mixed (l:=[KKnown74]) (.cons kKnown74 .nil) 3000 (by kernel_rfl)
def KKnown78:CF:=⟨66,[.agg wKnown16,.agg ⟨[vI 0,vI 1,vI 3,vI 0,vI 0,vI 0,vI 0,vI 0]⟩],.tuple ⟨[.agg wKnown18,vI 182]⟩⟩
theorem kKnown78:KKnown78.Ok Tryz.prog:=CF.of2 noNG mixed (l:=[KKnown74]) (.cons kKnown74 .nil) 3000 (by kernel_rfl)
def KKnown79:CF:=⟨66,[.agg wKnown16,.agg ⟨[vI 0,vI 1,vI 4,vI 0,vI 0,vI 0,vI 0,vI 0]⟩],.tuple ⟨[.agg wKnown18,vI 182]⟩⟩
theorem kKnown79:KKnown79.Ok Tryz.prog:=CF.of2 noNG mixed (l:=[KKnown74]) (.cons kKnown74 .nil) 3000 (by kernel_rfl)
def KKnown80:CF:=⟨30,[.agg wKnown7,.slice none 0 0,vI 0],.tuple ⟨[lstV ⟨[vI 0]⟩ 0 1 1,vI 0]⟩⟩
theorem kKnown80:KKnown80.Ok Tryz.prog:=CF.of2 noNG mixed (l:=[KKnown65,KKnown75,KKnown76,KKnown77,KKnown78,KKnown79,KKnown51]) (.cons kKnown65 (.cons kKnown75 (.cons kKnown76 (.cons kKnown77 (.cons kKnown78 (.cons kKnown79 (.cons kKnown51 .nil))))))) 3000 (by kernel_rfl)
def KKnown81:CF:=⟨110,[.agg wKnown16,.agg ⟨[vI 0,vI 1,vI 0,vI 0,vI 0,vI 0,vI 0,vI 0]⟩],vI 0⟩
theorem kKnown81:KKnown81.Ok Tryz.prog:=CF.of2 noNG mixed (l:=[]) .nil 3000 (by kernel_rfl)
def KKnown82:CF:=⟨110,[.agg wKnown16,.agg ⟨[vI 90,vI 2,vI 0,vI 0,vI 0,vI 0,vI 0,vI 0]⟩],vI 0⟩
theorem kKnown82:KKnown82.Ok Tryz.prog:=CF.of2 noNG mixed (l:=[]) .nil 3000 (by kernel_rfl)
def KKnown83:CF:=⟨110,[.agg wKnown16,.agg ⟨[vI 100,vI 2,vI 0,vI 0,vI 0,vI 0,vI 0,vI 0]⟩],vI 0⟩
theorem kKnown83:KKnown83.Ok Tryz.prog:=CF.of2 noNG mixed (l:=[]) .nil 3000 (by kernel_rfl)
def KKnown84:CF:=⟨110,[.agg wKnown16,.agg ⟨[vI 100,vI 1,vI 2,vI 0,vI 0,vI 0,vI 0,vI 0]⟩],vI 0⟩
theorem kKnown84:KKnown84.Ok Tryz.prog:=CF.of2 noNG mixed (l:=[]) .nil 3000 (by kernel_rfl)
def KKnown85:CF:=⟨110,[.agg wKnown16,.agg ⟨[vI 100,vI 1,vI 1,vI 0,vI 0,vI 0,vI 0,vI 0]⟩],vI 0⟩
theorem kKnown85:KKnown85.Ok Tryz.prog:=CF.of2 noNG mixed (l:=[]) .nil 3000 (by kernel_rfl)
def KKnown86:CF:=⟨110,[.agg wKnown16,.agg ⟨[vI 110,vI 1,vI 2,vI 0,vI 0,vI 0,vI 0,vI 0]⟩],vI 0⟩
theorem kKnown86:KKnown86.Ok Tryz.prog:=CF.of2 noNG mixed (l:=[]) .nil 3000 (by kernel_rfl)
def KKnown87:CF:=⟨110,[.agg wKnown16,.agg ⟨[vI 120,vI 2,vI 1,vI 0,vI 0,vI 0,vI 0,vI 0]⟩],vI 0⟩
theorem kKnown87:KKnown87.Ok Tryz.prog:=CF.of2 noNG mixed (l:=[]) .nil 3000 (by kernel_rfl)
def KKnown88:CF:=⟨110,[.agg wKnown16,.agg ⟨[vI 170,vI 2,vI 2,vI 0,vI 0,vI 0,vI 0,vI 0]⟩],vI 0⟩
theorem kKnown88:KKnown88.Ok Tryz.prog:=CF.of2 noNG mixed (l:=[]) .nil 3000 (by kernel_rfl)
def KKnown89:CF:=⟨110,[.agg wKnown16,.agg ⟨[vI 180,vI 1,vI 3,vI 0,vI 0,vI 0,vI 0,vI 0]⟩],vI 0⟩
theorem kKnown89:KKnown89.Ok Tryz.prog:=CF.of2 noNG mixed (l:=[]) .nil 3000 (by kernel_rfl)
def KKnown90:CF:=⟨110,[.agg wKnown16,.agg ⟨[vI 180,vI 5,vI 0,vI 0,vI 0,vI 0,vI 0,vI 0]⟩],vI 0⟩
theorem kKnown90:KKnown90.Ok Tryz.prog:=CF.of2 noNG mixed (l:=[]) .nil 3000 (by kernel_rfl)
def KKnown91:CF:=⟨110,[.agg wKnown16,.agg ⟨[vI 181,vI 5,vI 1,vI 0,vI 0,vI 0,vI 0,vI 0]⟩],vI 0⟩
theorem kKnown91:KKnown91.Ok Tryz.prog:=CF.of2 noNG mixed (l:=[]) .nil 3000 (by kernel_rfl)
def KKnown92:CF:=⟨110,[.agg wKnown16,.agg ⟨[vI 185,vI 1,vI 3,vI 0,vI 0,vI 0,vI 0,vI 0]⟩],vI 0⟩
theorem kKnown92:KKnown92.Ok Tryz.prog:=CF.of2 noNG mixed (l:=[]) .nil 3000 (by kernel_rfl)
def KKnown93:CF:=⟨110,[.agg wKnown16,.agg ⟨[vI 190,vI 2,vI 3,vI 0,vI 0,vI 0,vI 0,vI 0]⟩],vI 0⟩
theorem kKnown93:KKnown93.Ok Tryz.prog:=CF.of2 noNG mixed (l:=[]) .nil 3000 (by kernel_rfl)
def KKnown94:CF:=⟨110,[.agg wKnown16,.agg ⟨[vI 190,vI 1,vI 4,vI 0,vI 0,vI 0,vI 0,vI 0]⟩],vI 0⟩
theorem kKnown94:KKnown94.Ok Tryz.prog:=CF.of2 noNG mixed (l:=[]) .nil 3000 (by kernel_rfl)
def KKnown95:CF:=⟨110,[.agg wKnown16,.agg ⟨[vI 199,vI 2,vI 4,vI 0,vI 0,vI 0,vI 0,vI 0]⟩],vI 0⟩
theorem kKnown95:KKnown95.Ok Tryz.prog:=CF.of2 noNG mixed (l:=[]) .nil 3000 (by kernel_rfl)
def KKnown96:CF:=⟨110,[.agg wKnown16,.agg ⟨[vI 200,vI 2,vI 4,vI 0,vI 0,vI 0,vI 0,vI 0]⟩],vI 0⟩
theorem kKnown96:KKnown96.Ok Tryz.prog:=CF.of2 noNG mixed (l:=[]) .nil 3000 (by kernel_rfl)
def KKnown97:CF:=⟨122,[vI 2],.func (.func 192) ⟨[]⟩ ⟨[]⟩⟩
theorem kKnown97:KKnown97.Ok Tryz.prog:=CF.of2 noNG mixed (l:=[]) .nil 3000 (by kernel_rfl)
def KKnown98:CF:=⟨66,[.agg wKnown19,.agg ⟨[vI 90,vI 2,vI 0,vI 0,vI 0,vI 0,vI 0,vI 0]⟩],.tuple ⟨[.agg wKnown18,vI 186]⟩⟩
theorem kKnown98:KKnown98.Ok Tryz.prog:=CF.of2 noNG mixed (l:=[KKnown97]) (.cons kKnown97 .nil) 3000 (by kernel_rfl)
def KKnown99:CF:=⟨66,[.agg wKnown19,.agg ⟨[vI 100,vI 2,vI 0,vI 0,vI 0,vI 0,vI 0,vI 0]⟩],.tuple ⟨[.agg wKnown20,vI 0]⟩⟩
theorem kKnown99:KKnown99.Ok Tryz.prog:=CF.of2 noNG mixed (l:=[KKnown97]) (.cons kKnown97 .nil) 3000 (by kernel_rfl)
def KKnown100:CF:=⟨66,[.agg wKnown21,.agg ⟨[vI 100,vI 1,vI 2,vI 0,vI 0,vI 0,vI 0,vI 0]⟩],.tuple ⟨[.agg wKnown18,vI 185]⟩⟩
theorem kKnown100:KKnown100.Ok Tryz.prog:=CF.of2 noNG mixed (l:=[KKnown74]) (.cons kKnown74 .nil) 3000 (by kernel_rfl)
def KKnown101:CF:=⟨66,[.agg wKnown21,.agg ⟨[vI 100,vI 1,vI 1,vI 0,vI 0,vI 0,vI 0,vI 0]⟩],.tuple ⟨[.agg wKnown22,vI 0]⟩⟩
theorem kKnown101:KKnown101.Ok Tryz.prog:=CF.of2 noNG mixed (l:=[KKnown74]) (.cons kKnown74 .nil) 3000 (by kernel_rfl)
def KKnown102:CF:=⟨66,[.agg wKnown23,.agg ⟨[vI 110,vI 1,vI 2,vI 0,vI 0,vI 0,vI 0,vI 0]⟩],.tuple ⟨[.agg wKnown24,vI 0]⟩⟩
theorem kKnown102:KKnown102.Ok Tryz.prog:=CF.of2 noNG mixed (l:=[KKnown74]) (.cons kKnown74 .nil) 3000 (by kernel_rfl)
def KKnown103:CF:=⟨66,[.agg wKnown25,.agg ⟨[vI 120,vI 2,vI 1,vI 0,vI 0,vI 0,vI 0,vI 0]⟩],.tuple ⟨[.agg wKnown26,vI 0]⟩⟩
theorem kKnown103:KKnown103.Ok Tryz.prog:=CF.of2 noNG mixed (l:=[KKnown97]) (.cons kKnown97 .nil) 3000 (by kernel_rfl)
def KKnown104:CF:=⟨66,[.agg wKnown27,.agg ⟨[vI 170,vI 2,vI 2,vI 0,vI 0,vI 0,vI 0,vI 0]⟩],.tuple ⟨[.agg wKnown28,vI 0]⟩⟩
theorem kKnown104:KKnown104.Ok Tryz.prog:=CF.of2 noNG mixed (l:=[KKnown97]) (.cons kKnown97 .nil) 3000 (by kernel_rfl)
def KKnown105:CF:=⟨66,[.agg wKnown29,.agg ⟨[vI 180,vI 1,vI 3,vI 0,vI 0,vI 0,vI 0,vI 0]⟩],.tuple ⟨[.agg wKnown18,vI 184]⟩⟩
theorem kKnown105:KKnown105.Ok Tryz.prog:=CF.of2 noNG mixed (l:=[KKnown74]) (.cons kKnown74 .nil) 3000 (by kernel_rfl)
def KKnown106:CF:=⟨122,[vI 5],.func (.func 195) ⟨[]⟩ ⟨[]⟩⟩
theorem kKnown106:KKnown106.Ok Tryz.prog:=CF.of2 noNG mixed (l:=[]) .nil 3000 (by kernel_rfl)
def KKnown107:CF:=⟨66,[.agg wKnown29,.agg ⟨[vI 180,vI 5,vI 0,vI 0,vI 0,vI 0,vI 0,vI 0]⟩],.tuple ⟨[.agg wKnown30,vI 0]⟩⟩
theorem kKnown107:KKnown107.Ok Tryz.prog:=CF.of2 noNG mixed (l:=[KKnown106]) (.cons kKnown106 .nil) 3000 (by kernel_rfl)
def KKnown108:CF:=⟨66,[.agg wKnown31,.agg ⟨[vI 181,vI 5,vI 1,vI 0,vI 0,vI 0,vI 0,vI 0]⟩],.tuple ⟨[.agg wKnown32,vI 0]⟩⟩
theorem kKnown108:KKnown108.Ok Tryz.prog:=CF.of2 noNG mixed (l:=[KKnown106]) (.cons kKnown106 .nil) 3000 (by kernel_rfl)
def KKnown109:CF:=⟨66,[.agg wKnown33,.agg ⟨[vI 185,vI 1,vI 3,vI 0,vI 0,vI 0,vI 0,vI 0]⟩],.tuple ⟨[.agg wKnown34,vI 0]⟩⟩
theorem kKnown109:KKnown109.Ok Tryz.prog:=CF.of2 noNG mixed (l:=[KKnown74]) (.cons kKnown74 .nil) 3000 (by kernel_rfl)
def KKnown110:CF:=⟨66,[.agg wKnown35,.agg ⟨[vI 190,vI 2,vI 3,vI 0,vI 0,vI 0,vI 0,vI 0]⟩],.tuple ⟨[.agg wKnown36,vI 0]⟩⟩
theorem kKnown110:KKnown110.Ok Tryz.prog:=CF.of2 noNG mixed (l:=[KKnown97]) (.cons kKnown97 .nil) 3000 (by kernel_rfl)
def KKnown111:CF:=⟨66,[.agg wKnown37,.agg ⟨[vI 190,vI 1,vI 4,vI 0,vI 0,vI 0,vI 0,vI 0]⟩],.tuple ⟨[.agg wKnown38,vI 0]⟩⟩
theorem kKnown111:KKnown111.Ok Tryz.prog:=CF.of2 noNG mixed (l:=[KKnown74]) (.cons kKnown74 .nil) 3000 (by kernel_rfl)
def KKnown112:CF:=⟨66,[.agg wKnown39,.agg ⟨[vI 199,vI 2,vI 4,vI 0,vI 0,vI 0,vI 0,vI 0]⟩],.tuple ⟨[.agg wKnown18,vI 187]⟩⟩
theorem kKnown112:KKnown112.Ok Tryz.prog:=CF.of2 noNG mixed (l:=[KKnown97]) (.cons kKnown97 .nil) 3000 (by kernel_rfl)
def KKnown113:CF:=⟨66,[.agg wKnown39,.agg ⟨[vI 200,vI 2,vI 4,vI 0,vI 0,vI 0,vI 0,vI 0]⟩],.tuple ⟨[.agg wKnown40,vI 0]⟩⟩
theorem kKnown113:KKnown113.Ok Tryz.prog:=CF.of2 noNG mixed (l:=[KKnown97]) (.cons kKnown97 .nil) 3000 (by kernel_rfl)
def KKnown114:CF:=⟨62,[.agg wKnown7,lstV wKnown8 0 16 8],.tuple ⟨[.agg wKnown41,lstV wKnown42 0 16 1,vI 0]⟩⟩
theorem kKnown114:KKnown114.Ok Tryz.prog:=CF.of2 noNG mixed (l:=[KKnown50,KKnown75,KKnown81,KKnown82,KKnown83,KKnown84,KKnown85,KKnown86,KKnown87,KKnown88,KKnown89,KKnown90,KKnown91,KKnown92,KKnown93,KKnown94,KKnown95,KKnown96,KKnown98,KKnown99,KKnown100,KKnown101,KKnown102,KKnown103,KKnown104,KKnown105,KKnown107,KKnown108,KKnown109,KKnown110,KKnown111,KKnown112,KKnown113]) (.cons kKnown50 (.cons kKnown75 (.cons kKnown81 (.cons kKnown82 (.cons kKnown83 (.cons kKnown84 (.cons kKnown85 (.cons kKnown86 (.cons kKnown87 (.cons kKnown88 (.cons kKnown89 (.cons kKnown90 (.cons kKnown91 (.cons kKnown92 (.cons kKnown93 (.cons kKnown94 (.cons kKnown95 (.cons kKnown96 (.cons kKnown98 (.cons kKnown99 (.cons kKnown100 (.cons kKnown101 (.cons kKnown102 (.cons kKnown103 (.cons kKnown104 (.cons kKnown105 (.cons kKnown107 (.cons kKnown108 (.cons kKnown109 (.cons kKnown110 (.cons kKnown111 (.cons kKnown112 (.cons kKnown113 .nil))))))))))))))))))))))))))))))))) 3000 (by kernel_rfl)
def KKnown115:CF:=⟨27,[.agg wKnown7,lstV wKnown8 0 16 8],.tuple ⟨[.agg wKnown40,lstV wKnown42 0 16 1,vI 0]⟩⟩
theorem kKnown115:KKnown115.Ok Tryz.prog:=CF.of2 noNG mixed (l:=[KKnown114]) (.cons kKnown114 .nil) 3000 (by kernel_rfl)
def KKnown116:CF:=⟨62,[.agg wKnown7,lstV wKnown8 0 5 8],.tuple ⟨[.agg wKnown23,lstV ⟨[vI 0,vI 186,vI 0,vI 185,vI 0]⟩ 0 5 1,vI 0]⟩⟩
theorem kKnown116:KKnown116.Ok Tryz.prog:=CF.of2 noNG mixed (l:=[KKnown98,KKnown99,KKnown100,KKnown101,KKnown75,KKnown81,KKnown50,KKnown83,KKnown84,KKnown82,KKnown85]) (.cons kKnown98 (.cons kKnown99 (.cons kKnown100 (.cons kKnown101 (.cons kKnown75 (.cons kKnown81 (.cons kKnown50 (.cons kKnown83 (.cons kKnown84 (.cons kKnown82 (.cons kKnown85 .nil))))))))))) 3000 (by kernel_rfl)
def KKnown117:CF:=⟨32,[.agg wKnown7,lstV wKnown8 0 5 8],.tuple ⟨[lstV ⟨[vI 600]⟩ 0 1 1,vI 0]⟩⟩
theorem kKnown117:KKnown117.Ok Tryz.prog:=CF.of2 noNG mixed (l:=[KKnown116]) (.cons kKnown116 .nil) 3000 (by kernel_rfl)
def KKnown118:CF:=⟨62,[.agg wKnown7,lstV wKnown8 0 13 8],.tuple ⟨[.agg wKnown37,lstV wKnown43 0 13 1,vI 0]⟩⟩
theorem kKnown118:KKnown118.Ok Tryz.prog:=CF.of2 noNG mixed (l:=[KKnown50,KKnown75,KKnown81,KKnown82,KKnown83,KKnown84,KKnown85,KKnown86,KKnown87,KKnown88,KKnown89,KKnown90,KKnown91,KKnown92,KKnown93,KKnown98,KKnown99,KKnown100,KKnown101,KKnown102,KKnown103,KKnown104,KKnown105,KKnown107,KKnown108,KKnown109,KKnown110]) (.cons kKnown50 (.cons kKnown75 (.cons kKnown81 (.cons kKnown82 (.cons kKnown83 (.cons kKnown84 (.cons kKnown85 (.cons kKnown86 (.cons kKnown87 (.cons kKnown88 (.cons kKnown89 (.cons kKnown90 (.cons kKnown91 (.cons kKnown92 (.cons kKnown93 (.cons kKnown98 (.cons kKnown99 (.cons kKnown100 (.cons kKnown101 (.cons kKnown102 (.cons kKnown103 (.cons kKnown104 (.cons kKnown105 (.cons kKnown107 (.cons kKnown108 (.cons kKnown109 (.cons kKnown110 .nil))))))))))))))))))))))))))) 3000 (by kernel_rfl)
def KKnown119:CF:=⟨32,[.agg wKnown7,lstV wKnown8 0 13 8],.tuple ⟨[lstV ⟨[vI 600]⟩ 0 1 1,vI 0]⟩⟩
theorem kKnown119:KKnown119.Ok Tryz.prog:=CF.of2 noNG mixed (l:=[KKnown118]) (.cons kKnown118 .nil) 3000 (by kernel_rfl)
def KKnown120:CF:=⟨40,[vI 191,vI 6,vI 1],.agg ⟨[vI 191,vI 6,vI 1,vI 0,vI 0,vI 0,vI 0,vI 0]⟩⟩
theorem kKnown120:KKnown120.Ok Tryz.prog:=CF.of2 noNG mixed (l:=[]) .nil 3000 (by kernel_rfl)
def KKnown121:CF:=⟨40,[vI 192,vI 1,vI 4],.agg ⟨[vI 192,vI 1,vI 4,vI 0,vI 0,vI 0,vI 0,vI 0]⟩⟩
theorem kKnown121:KKnown121.Ok Tryz.prog:=CF.of2 noNG mixed (l:=[]) .nil 3000 (by kernel_rfl)
def KKnown122:CF:=⟨40,[vI 195,vI 7,vI 0],.agg ⟨[vI 195,vI 7,vI 0,vI 0,vI 0,vI 0,vI 0,vI 0]⟩⟩
theorem kKnown122:KKnown122.Ok Tryz.prog:=CF.of2 noNG mixed (l:=[]) .nil 3000 (by kernel_rfl)
def KKnown123:CF:=⟨110,[.agg wKnown16,.agg ⟨[vI 191,vI 6,vI 1,vI 0,vI 0,vI 0,vI 0,vI 0]⟩],vI 0⟩
theorem kKnown123:KKnown123.Ok Tryz.prog:=CF.of2 noNG mixed (l:=[]) .nil 3000 (by kernel_rfl)
def KKnown124:CF:=⟨110,[.agg wKnown16,.agg ⟨[vI 192,vI 1,vI 4,vI 0,vI 0,vI 0,vI 0,vI 0]⟩],vI 0⟩
theorem kKnown124:KKnown124.Ok Tryz.prog:=CF.of2 noNG mixed (l:=[]) .nil 3000 (by kernel_rfl)
def KKnown125:CF:=⟨110,[.agg wKnown16,.agg ⟨[vI 195,vI 7,vI 0,vI 0,vI 0,vI 0,vI 0,vI 0]⟩],vI 0⟩
theorem kKnown125:KKnown125.Ok Tryz.prog:=CF.of2 noNG mixed (l:=[]) .nil 3000 (by kernel_rfl)
def KKnown126:CF:=⟨122,[vI 6],.func (.func 196) ⟨[]⟩ ⟨[]⟩⟩
theorem kKnown126:KKnown126.Ok Tryz.prog:=CF.of2 noNG mixed (l:=[]) .nil 3000 (by kernel_rfl)
def KKnown127:CF:=⟨66,[.agg wKnown37,.agg ⟨[vI 191,vI 6,vI 1,vI 0,vI 0,vI 0,vI 0,vI 0]⟩],.tuple ⟨[.agg wKnown44,vI 0]⟩⟩
theorem kKnown127:KKnown127.Ok Tryz.prog:=CF.of2 noNG mixed (l:=[KKnown126]) (.cons kKnown126 .nil) 3000 (by kernel_rfl)
def KKnown128:CF:=⟨66,[.agg wKnown45,.agg ⟨[vI 192,vI 1,vI 4,vI 0,vI 0,vI 0,vI 0,vI 0]⟩],.tuple ⟨[.agg wKnown18,vI 183]⟩⟩
theorem kKnown128:KKnown128.Ok Tryz.prog:=CF.of2 noNG mixed (l:=[KKnown74]) (.cons kKnown74 .nil) 3000 (by kernel_rfl)
def KKnown129:CF:=⟨122,[vI 7],.func (.func 197) ⟨[]⟩ ⟨[]⟩⟩
theorem kKnown129:KKnown129.Ok Tryz.prog:=CF.of2 noNG mixed (l:=[]) .nil 3000 (by kernel_rfl)
def KKnown130:CF:=⟨66,[.agg wKnown45,.agg ⟨[vI 195,vI 7,vI 0,vI 0,vI 0,vI 0,vI 0,vI 0]⟩],.tuple ⟨[.agg wKnown46,vI 0]⟩⟩
theorem kKnown130:KKnown130.Ok Tryz.prog:=CF.of2 noNG mixed (l:=[KKnown129]) (.cons kKnown129 .nil) 3000 (by kernel_rfl)
def KKnown131:CF:=⟨67,[.agg wKnown47],vF⟩
theorem kKnown131:KKnown131.Ok Tryz.prog:=CF.of2 noNG mixed (l:=[]) .nil 3000 (by kernel_rfl)
def KKnown132:CF:=⟨46,[vI 195,vI 195,vI 100000],vT⟩
theorem kKnown132:KKnown132.Ok Tryz.prog:=CF.of2 noNG mixed (l:=[]) .nil 3000 (by kernel_rfl)
def KKnown133:CF:=⟨117,[.agg wKnown47,vI 0],vT⟩
theorem kKnown133:KKnown133.Ok Tryz.prog:=CF.of2 noNG mixed (l:=[]) .nil 3000 (by kernel_rfl)
def KKnown134:CF:=⟨117,[.agg wKnown47,vI 1],vF⟩
theorem kKnown134:KKnown134.Ok Tryz.prog:=CF.of2 noNG mixed (l:=[]) .nil 3000 (by kernel_rfl)
def KKnown135:CF:=⟨126,[.agg wKnown47,vI 1],vF⟩
theorem kKnown135:KKnown135.Ok Tryz.prog:=CF.of2 noNG mixed (l:=[]) .nil 3000 (by kernel_rfl)
def KKnown136:CF:=⟨117,[.agg wKnown47,vI 2],vF⟩
theorem kKnown136:KKnown136.Ok Tryz.prog:=CF.of2 noNG mixed (l:=[]) .nil 3000 (by kernel_rfl)
def KKnown137:CF:=⟨126,[.agg wKnown47,vI 2],vF⟩
theorem kKnown137:KKnown137.Ok Tryz.prog:=CF.of2 noNG mixed (l:=[]) .nil 3000 (by kernel_rfl)
def KKnown138:CF:=⟨117,[.agg wKnown47,vI 3],vF⟩
theorem kKnown138:KKnown138.Ok Tryz.prog:=CF.of2 noNG mixed (l:=[]) .nil 3000 (by kernel_rfl)
def KKnown139:CF:=⟨126,[.agg wKnown47,vI 3],vF⟩
theorem kKnown139:KKnown139.Ok Tryz.prog:=CF.of2 noNG mixed (l:=[]) .nil 3000 (by kernel_rfl)
def KKnown140:CF:=⟨117,[.agg wKnown47,vI 4],vF⟩
theorem kKnown140:KKnown140.Ok Tryz.prog:=CF.of2 noNG mixed (l:=[]) .nil 3000 (by kernel_rfl)
def KKnown141:CF:=⟨126,[.agg wKnown47,vI 4],vF⟩
theorem kKnown141:KKnown141.Ok Tryz.prog:=CF.of2 noNG mixed (l:=[]) .nil 3000 (by kernel_rfl)
def KKnown142:CF:=⟨124,[.agg wKnown47,vI 195],lstV ⟨[vI 100,vI 205,vI 245,vI 245,vI 250]⟩ 0 5 1⟩
theorem kKnown142:KKnown142.Ok Tryz.prog:=CF.of2 noNG mixed (l:=[KKnown133,KKnown134,KKnown135,KKnown136,KKnown137,KKnown138,KKnown139,KKnown140,KKnown141]) (.cons kKnown133 (.cons kKnown134 (.cons kKnown135 (.cons kKnown136 (.cons kKnown137 (.cons kKnown138 (.cons kKnown139 (.cons kKnown140 (.cons kKnown141 .nil))))))))) 3000 (by kernel_rfl)
def KKnown143:CF:=⟨125,[.agg wKnown47],lstV ⟨[vT,vT,vT,vT,vT]⟩ 0 5 1⟩
theorem kKnown143:KKnown143.Ok Tryz.prog:=CF.of2 noNG mixed (l:=[KKnown63]) (.cons kKnown63 .nil) 3000 (by kernel_rfl)
def KKnown144:CF:=⟨65,[.agg wKnown47],.func (.func 116) ⟨[]⟩ ⟨[dptV wKnown47 0]⟩⟩
theorem kKnown144:KKnown144.Ok Tryz.prog:=CF.of2 noNG mixed (l:=[]) .nil 3000 (by kernel_rfl)
def KKnown145:CF:=⟨68,[.agg wKnown47,vI 195],.tuple ⟨[vI 250,vT]⟩⟩
theorem kKnown145:KKnown145.Ok Tryz.prog:=CF.of2 noNG mixed (l:=[KKnown144,KKnown142,KKnown143]) (.cons kKnown144 (.cons kKnown142 (.cons kKnown143 .nil))) 3000 (by kernel_rfl)
def KKnown146:CF:=⟨117,[.agg wKnown23,vI 0],vT⟩
theorem kKnown146:KKnown146.Ok Tryz.prog:=CF.of2 noNG mixed (l:=[]) .nil 3000 (by kernel_rfl)
def KKnown147:CF:=⟨117,[.agg wKnown23,vI 1],vF⟩
theorem kKnown147:KKnown147.Ok Tryz.prog:=CF.of2 noNG mixed (l:=[]) .nil 3000 (by kernel_rfl)
def KKnown148:CF:=⟨126,[.agg wKnown23,vI 1],vT⟩
theorem kKnown148:KKnown148.Ok Tryz.prog:=CF.of2 noNG mixed (l:=[]) .nil 3000 (by kernel_rfl)
def KKnown149:CF:=⟨117,[.agg wKnown23,vI 2],vF⟩
theorem kKnown149:KKnown149.Ok Tryz.prog:=CF.of2 noNG mixed (l:=[]) .nil 3000 (by kernel_rfl)
def KKnown150:CF:=⟨126,[.agg wKnown23,vI 2],vF⟩
theorem kKnown150:KKnown150.Ok Tryz.prog:=CF.of2 noNG mixed (l:=[]) .nil 3000 (by kernel_rfl)
def KKnown151:CF:=⟨117,[.agg wKnown23,vI 3],vF⟩
theorem kKnown151:KKnown151.Ok Tryz.prog:=CF.of2 noNG mixed (l:=[]) .nil 3000 (by kernel_rfl)
def KKnown152:CF:=⟨126,[.agg wKnown23,vI 3],vF⟩
theorem kKnown152:KKnown152.Ok Tryz.prog:=CF.of2 noNG mixed (l:=[]) .nil 3000 (by kernel_rfl)
def KKnown153:CF:=⟨117,[.agg wKnown23,vI 4],vF⟩
theorem kKnown153:KKnown153.Ok Tryz.prog:=CF.of2 noNG mixed (l:=[]) .nil 3000 (by kernel_rfl)
def KKnown154:CF:=⟨126,[.agg wKnown23,vI 4],vF⟩
theorem kKnown154:KKnown154.Ok Tryz.prog:=CF.of2 noNG mixed (l:=[]) .nil 3000 (by kernel_rfl)
def KKnown155:CF:=⟨124,[.agg wKnown23,vI 120],lstV ⟨[vI 100,vI 120,vI 170,vI 170,vI 175]⟩ 0 5 1⟩
theorem kKnown155:KKnown155.Ok Tryz.prog:=CF.of2 noNG mixed (l:=[KKnown146,KKnown147,KKnown148,KKnown149,KKnown150,KKnown151,KKnown152,KKnown153,KKnown154]) (.cons kKnown146 (.cons kKnown147 (.cons kKnown148 (.cons kKnown149 (.cons kKnown150 (.cons kKnown151 (.cons kKnown152 (.cons kKnown153 (.cons kKnown154 .nil))))))))) 3000 (by kernel_rfl)
def KKnown156:CF:=⟨125,[.agg wKnown23],lstV ⟨[vT,vT,vT,vT,vT]⟩ 0 5 1⟩
theorem kKnown156:KKnown156.Ok Tryz.prog:=CF.of2 noNG mixed (l:=[KKnown63]) (.cons kKnown63 .nil) 3000 (by kernel_rfl)
def KKnown157:CF:=⟨65,[.agg wKnown23],.func (.func 116) ⟨[]⟩ ⟨[dptV wKnown23 0]⟩⟩
theorem kKnown157:KKnown157.Ok Tryz.prog:=CF.of2 noNG mixed (l:=[]) .nil 3000 (by kernel_rfl)
def KKnown158:CF:=⟨68,[.agg wKnown23,vI 120],.tuple ⟨[vI 200,vT]⟩⟩
theorem kKnown158:KKnown158.Ok Tryz.prog:=CF.of2 noNG mixed (l:=[KKnown155,KKnown156,KKnown157]) (.cons kKnown155 (.cons kKnown156 (.cons kKnown157 .nil))) 3000 (by kernel_rfl)
def KKnown159:CF:=⟨34,[.agg wKnown7,lstV wKnown8 0 5 8,vI 120],.tuple ⟨[vI 200,vI 0]⟩⟩
theorem kKnown159:KKnown159.Ok Tryz.prog:=CF.of2 noNG mixed (l:=[KKnown116,KKnown158]) (.cons kKnown116 (.cons kKnown158 .nil)) 3000 (by kernel_rfl)
def KKnown160:CF:=⟨67,[.agg wKnown16],vF⟩
theorem kKnown160:KKnown160.Ok Tryz.prog:=CF.of2 noNG mixed (l:=[]) .nil 3000 (by kernel_rfl)
def KKnown161:CF:=⟨124,[.agg wKnown16,vI 50000],lstV ⟨[vI 50100,vI 50110,vI 50150,vI 50150,vI 50155]⟩ 0 5 1⟩
theorem kKnown161:KKnown161.Ok Tryz.prog:=CF.of2 noNG mixed (l:=[KKnown52,KKnown53,KKnown54,KKnown55,KKnown56,KKnown57,KKnown58,KKnown59,KKnown60,KKnown61]) (.cons kKnown52 (.cons kKnown53 (.cons kKnown54 (.cons kKnown55 (.cons kKnown56 (.cons kKnown57 (.cons kKnown58 (.cons kKnown59 (.cons kKnown60 (.cons kKnown61 .nil)))))))))) 3000 (by kernel_rfl)
def KKnown162:CF:=⟨68,[.agg wKnown16,vI 50000],.tuple ⟨[vI 0,vF]⟩⟩
theorem kKnown162:KKnown162.Ok Tryz.prog:=CF.of2 noNG mixed (l:=[KKnown161]) (.cons kKnown161 .nil) 3000 (by kernel_rfl)
def KKnown163:CF:=⟨124,[.agg wKnown16,vI 25000],lstV ⟨[vI 25100,vI 25110,vI 25150,vI 25150,vI 25155]⟩ 0 5 1⟩
theorem kKnown163:KKnown163.Ok Tryz.prog:=CF.of2 noNG mixed (l:=[KKnown52,KKnown53,KKnown54,KKnown55,KKnown56,KKnown57,KKnown58,KKnown59,KKnown60,KKnown61]) (.cons kKnown52 (.cons kKnown53 (.cons kKnown54 (.cons kKnown55 (.cons kKnown56 (.cons kKnown57 (.cons kKnown58 (.cons kKnown59 (.cons kKnown60 (.cons kKnown61 .nil)))))))))) 3000 (by kernel_rfl)
def KKnown164:CF:=⟨68,[.agg wKnown16,vI 25000],.tuple ⟨[vI 0,vF]⟩⟩
theorem kKnown164:KKnown164.Ok Tryz.prog:=CF.of2 noNG mixed (l:=[KKnown163]) (.cons kKnown163 .nil) 3000 (by kernel_rfl)
def KKnown165:CF:=⟨124,[.agg wKnown16,vI 12500],lstV ⟨[vI 12600,vI 12610,vI 12650,vI 12650,vI 12655]⟩ 0 5 1⟩
theorem kKnown165:KKnown165.Ok Tryz.prog:=CF.of2 noNG mixed (l:=[KKnown52,KKnown53,KKnown54,KKnown55,KKnown56,KKnown57,KKnown58,KKnown59,KKnown60,KKnown61]) (.cons kKnown52 (.cons kKnown53 (.cons kKnown54 (.cons kKnown55 (.cons kKnown56 (.cons kKnown57 (.cons kKnown58 (.cons kKnown59 (.cons kKnown60 (.cons kKnown61 .nil)))))))))) 3000 (by kernel_rfl)
def KKnown166:CF:=⟨68,[.agg wKnown16,vI 12500],.tuple ⟨[vI 0,vF]⟩⟩
theorem kKnown166:KKnown166.Ok Tryz.prog:=CF.of2 noNG mixed (l:=[KKnown165]) (.cons kKnown165 .nil) 3000 (by kernel_rfl)
def KKnown167:CF:=⟨124,[.agg wKnown16,vI 6250],lstV ⟨[vI 6350,vI 6360,vI 6400,vI 6400,vI 6405]⟩ 0 5 1⟩
theorem kKnown167:KKnown167.Ok Tryz.prog:=CF.of2 noNG mixed (l:=[KKnown52,KKnown53,KKnown54,KKnown55,KKnown56,KKnown57,KKnown58,KKnown59,KKnown60,KKnown61]) (.cons kKnown52 (.cons kKnown53 (.cons kKnown54 (.cons kKnown55 (.cons kKnown56 (.cons kKnown57 (.cons kKnown58 (.cons kKnown59 (.cons kKnown60 (.cons kKnown61 .nil)))))))))) 3000 (by kernel_rfl)
def KKnown168:CF:=⟨68,[.agg wKnown16,vI 6250],.tuple ⟨[vI 0,vF]⟩⟩
theorem kKnown168:KKnown168.Ok Tryz.prog:=CF.of2 noNG mixed (l:=[KKnown167]) (.cons kKnown167 .nil) 3000 (by kernel_rfl)
def KKnown169:CF:=⟨124,[.agg wKnown16,vI 3125],lstV ⟨[vI 3225,vI 3235,vI 3275,vI 3275,vI 3280]⟩ 0 5 1⟩
theorem kKnown169:KKnown169.Ok Tryz.prog:=CF.of2 noNG mixed (l:=[KKnown52,KKnown53,KKnown54,KKnown55,KKnown56,KKnown57,KKnown58,KKnown59,KKnown60,KKnown61]) (.cons kKnown52 (.cons kKnown53 (.cons kKnown54 (.cons kKnown55 (.cons kKnown56 (.cons kKnown57 (.cons kKnown58 (.cons kKnown59 (.cons kKnown60 (.cons kKnown61 .nil)))))))))) 3000 (by kernel_rfl)
def KKnown170:CF:=⟨68,[.agg wKnown16,vI 3125],.tuple ⟨[vI 0,vF]⟩⟩
theorem kKnown170:KKnown170.Ok Tryz.prog:=CF.of2 noNG mixed (l:=[KKnown169]) (.cons kKnown169 .nil) 3000 (by kernel_rfl)
def KKnown171:CF:=⟨124,[.agg wKnown16,vI 1562],lstV ⟨[vI 1662,vI 1672,vI 1712,vI 1712,vI 1717]⟩ 0 5 1⟩
theorem kKnown171:KKnown171.Ok Tryz.prog:=CF.of2 noNG mixed (l:=[KKnown52,KKnown53,KKnown54,KKnown55,KKnown56,KKnown57,KKnown58,KKnown59,KKnown60,KKnown61]) (.cons kKnown52 (.cons kKnown53 (.cons kKnown54 (.cons kKnown55 (.cons kKnown56 (.cons kKnown57 (.cons kKnown58 (.cons kKnown59 (.cons kKnown60 (.cons kKnown61 .nil)))))))))) 3000 (by kernel_rfl)
def KKnown172:CF:=⟨68,[.agg wKnown16,vI 1562],.tuple ⟨[vI 0,vF]⟩⟩
theorem kKnown172:KKnown172.Ok Tryz.prog:=CF.of2 noNG mixed (l:=[KKnown171]) (.cons kKnown171 .nil) 3000 (by kernel_rfl)
def KKnown173:CF:=⟨124,[.agg wKnown16,vI 781],lstV ⟨[vI 881,vI 891,vI 931,vI 931,vI 936]⟩ 0 5 1⟩
theorem kKnown173:KKnown173.Ok Tryz.prog:=CF.of2 noNG mixed (l:=[KKnown52,KKnown53,KKnown54,KKnown55,KKnown56,KKnown57,KKnown58,KKnown59,KKnown60,KKnown61]) (.cons kKnown52 (.cons kKnown53 (.cons kKnown54 (.cons kKnown55 (.cons kKnown56 (.cons kKnown57 (.cons kKnown58 (.cons kKnown59 (.cons kKnown60 (.cons kKnown61 .nil)))))))))) 3000 (by kernel_rfl)
def KKnown174:CF:=⟨68,[.agg wKnown16,vI 781],.tuple ⟨[vI 0,vF]⟩⟩
theorem kKnown174:KKnown174.Ok Tryz.prog:=CF.of2 noNG mixed (l:=[KKnown173]) (.cons kKnown173 .nil) 3000 (by kernel_rfl)
def KKnown175:CF:=⟨124,[.agg wKnown16,vI 390],lstV ⟨[vI 490,vI 500,vI 540,vI 540,vI 545]⟩ 0 5 1⟩
theorem kKnown175:KKnown175.Ok Tryz.prog:=CF.of2 noNG mixed (l:=[KKnown52,KKnown53,KKnown54,KKnown55,KKnown56,KKnown57,KKnown58,KKnown59,KKnown60,KKnown61]) (.cons kKnown52 (.cons kKnown53 (.cons kKnown54 (.cons kKnown55 (.cons kKnown56 (.cons kKnown57 (.cons kKnown58 (.cons kKnown59 (.cons kKnown60 (.cons kKnown61 .nil)))))))))) 3000 (by kernel_rfl)
def KKnown176:CF:=⟨68,[.agg wKnown16,vI 390],.tuple ⟨[vI 0,vF]⟩⟩
theorem kKnown176:KKnown176.Ok Tryz.prog:=CF.of2 noNG mixed (l:=[KKnown175]) (.cons kKnown175 .nil) 3000 (by kernel_rfl)
def KKnown177:CF:=⟨124,[.agg wKnown16,vI 195],lstV ⟨[vI 295,vI 305,vI 345,vI 345,vI 350]⟩ 0 5 1⟩
theorem kKnown177:KKnown177.Ok Tryz.prog:=CF.of2 noNG mixed (l:=[KKnown52,KKnown53,KKnown54,KKnown55,KKnown56,KKnown57,KKnown58,KKnown59,KKnown60,KKnown61]) (.cons kKnown52 (.cons kKnown53 (.cons kKnown54 (.cons kKnown55 (.cons kKnown56 (.cons kKnown57 (.cons kKnown58 (.cons kKnown59 (.cons kKnown60 (.cons kKnown61 .nil)))))))))) 3000 (by kernel_rfl)
def KKnown178:CF:=⟨68,[.agg wKnown16,vI 195],.tuple ⟨[vI 350,vT]⟩⟩
theorem kKnown178:KKnown178.Ok Tryz.prog:=CF.of2 noNG mixed (l:=[KKnown64,KKnown177,KKnown65]) (.cons kKnown64 (.cons kKnown177 (.cons kKnown65 .nil))) 3000 (by kernel_rfl)
def KKnown179:CF:=⟨124,[.agg wKnown16,vI 293],lstV ⟨[vI 393,vI 403,vI 443,vI 443,vI 448]⟩ 0 5 1⟩
theorem kKnown179:KKnown179.Ok Tryz.prog:=CF.of2 noNG mixed (l:=[KKnown52,KKnown53,KKnown54,KKnown55,KKnown56,KKnown57,KKnown58,KKnown59,KKnown60,KKnown61]) (.cons kKnown52 (.cons kKnown53 (.cons kKnown54 (.cons kKnown55 (.cons kKnown56 (.cons kKnown57 (.cons kKnown58 (.cons kKnown59 (.cons kKnown60 (.cons kKnown61 .nil)))))))))) 3000 (by kernel_rfl)
def KKnown180:CF:=⟨68,[.agg wKnown16,vI 293],.tuple ⟨[vI 0,vF]⟩⟩
theorem kKnown180:KKnown180.Ok Tryz.prog:=CF.of2 noNG mixed (l:=[KKnown179]) (.cons kKnown179 .nil) 3000 (by kernel_rfl)
def KKnown181:CF:=⟨124,[.agg wKnown16,vI 244],lstV ⟨[vI 344,vI 354,vI 394,vI 394,vI 399]⟩ 0 5 1⟩
theorem kKnown181:KKnown181.Ok Tryz.prog:=CF.of2 noNG mixed (l:=[KKnown52,KKnown53,KKnown54,KKnown55,KKnown56,KKnown57,KKnown58,KKnown59,KKnown60,KKnown61]) (.cons kKnown52 (.cons kKnown53 (.cons kKnown54 (.cons kKnown55 (.cons kKnown56 (.cons kKnown57 (.cons kKnown58 (.cons kKnown59 (.cons kKnown60 (.cons kKnown61 .nil)))))))))) 3000 (by kernel_rfl)
def KKnown182:CF:=⟨68,[.agg wKnown16,vI 244],.tuple ⟨[vI 399,vT]⟩⟩
theorem kKnown182:KKnown182.Ok Tryz.prog:=CF.of2 noNG mixed (l:=[KKnown64,KKnown65,KKnown181]) (.cons kKnown64 (.cons kKnown65 (.cons kKnown181 .nil))) 3000 (by kernel_rfl)
def KKnown183:CF:=⟨124,[.agg wKnown16,vI 269],lstV ⟨[vI 369,vI 379,vI 419,vI 419,vI 424]⟩ 0 5 1⟩
theorem kKnown183:KKnown183.Ok Tryz.prog:=CF.of2 noNG mixed (l:=[KKnown52,KKnown53,KKnown54,KKnown55,KKnown56,KKnown57,KKnown58,KKnown59,KKnown60,KKnown61]) (.cons kKnown52 (.cons kKnown53 (.cons kKnown54 (.cons kKnown55 (.cons kKnown56 (.cons kKnown57 (.cons kKnown58 (.cons kKnown59 (.cons kKnown60 (.cons kKnown61 .nil)))))))))) 3000 (by kernel_rfl)
def KKnown184:CF:=⟨68,[.agg wKnown16,vI 269],.tuple ⟨[vI 0,vF]⟩⟩
theorem kKnown184:KKnown184.Ok Tryz.prog:=CF.of2 noNG mixed (l:=[KKnown183]) (.cons kKnown183 .nil) 3000 (by kernel_rfl)
def KKnown185:CF:=⟨124,[.agg wKnown16,vI 257],lstV ⟨[vI 357,vI 367,vI 407,vI 407,vI 412]⟩ 0 5 1⟩
theorem kKnown185:KKnown185.Ok Tryz.prog:=CF.of2 noNG mixed (l:=[KKnown52,KKnown53,KKnown54,KKnown55,KKnown56,KKnown57,KKnown58,KKnown59,KKnown60,KKnown61]) (.cons kKnown52 (.cons kKnown53 (.cons kKnown54 (.cons kKnown55 (.cons kKnown56 (.cons kKnown57 (.cons kKnown58 (.cons kKnown59 (.cons kKnown60 (.cons kKnown61 .nil)))))))))) 3000 (by kernel_rfl)
def KKnown186:CF:=⟨68,[.agg wKnown16,vI 257],.tuple ⟨[vI 0,vF]⟩⟩
theorem kKnown186:KKnown186.Ok Tryz.prog:=CF.of2 noNG mixed (l:=[KKnown185]) (.cons kKnown185 .nil) 3000 (by kernel_rfl)
def KKnown187:CF:=⟨124,[.agg wKnown16,vI 251],lstV ⟨[vI 351,vI 361,vI 401,vI 401,vI 406]⟩ 0 5 1⟩
theorem kKnown187:KKnown187.Ok Tryz.prog:=CF.of2 noNG mixed (l:=[KKnown52,KKnown53,KKnown54,KKnown55,KKnown56,KKnown57,KKnown58,KKnown59,KKnown60,KKnown61]) (.cons kKnown52 (.cons kKnown53 (.cons kKnown54 (.cons kKnown55 (.cons kKnown56 (.cons kKnown57 (.cons kKnown58 (.cons kKnown59 (.cons kKnown60 (.cons kKnown61 .nil)))))))))) 3000 (by kernel_rfl)
def KKnown188:CF:=⟨68,[.agg wKnown16,vI 251],.tuple ⟨[vI 0,vF]⟩⟩
theorem kKnown188:KKnown188.Ok Tryz.prog:=CF.of2 noNG mixed (l:=[KKnown187]) (.cons kKnown187 .nil) 3000 (by kernel_rfl)
def KKnown189:CF:=⟨124,[.agg wKnown16,vI 248],lstV ⟨[vI 348,vI 358,vI 398,vI 398,vI 403]⟩ 0 5 1⟩
theorem kKnown189:KKnown189.Ok Tryz.prog:=CF.of2 noNG mixed (l:=[KKnown52,KKnown53,KKnown54,KKnown55,KKnown56,KKnown57,KKnown58,KKnown59,KKnown60,KKnown61]) (.cons kKnown52 (.cons kKnown53 (.cons kKnown54 (.cons kKnown55 (.cons kKnown56 (.cons kKnown57 (.cons kKnown58 (.cons kKnown59 (.cons kKnown60 (.cons kKnown61 .nil)))))))))) 3000 (by kernel_rfl)
def KKnown190:CF:=⟨68,[.agg wKnown16,vI 248],.tuple ⟨[vI 0,vF]⟩⟩
theorem kKnown190:KKnown190.Ok Tryz.prog:=CF.of2 noNG mixed (l:=[KKnown189]) (.cons kKnown189 .nil) 3000 (by kernel_rfl)
def KKnown191:CF:=⟨124,[.agg wKnown16,vI 246],lstV ⟨[vI 346,vI 356,vI 396,vI 396,vI 401]⟩ 0 5 1⟩
theorem kKnown191:KKnown191.Ok Tryz.prog:=CF.of2 noNG mixed (l:=[KKnown52,KKnown53,KKnown54,KKnown55,KKnown56,KKnown57,KKnown58,KKnown59,KKnown60,KKnown61]) (.cons kKnown52 (.cons kKnown53 (.cons kKnown54 (.cons kKnown55 (.cons kKnown56 (.cons kKnown57 (.cons kKnown58 (.cons kKnown59 (.cons kKnown60 (.cons kKnown61 .nil)))))))))) 3000 (by kernel_rfl)
def KKnown192:CF:=⟨68,[.agg wKnown16,vI 246],.tuple ⟨[vI 0,vF]⟩⟩
theorem kKnown192:KKnown192.Ok Tryz.prog:=CF.of2 noNG mixed (l:=[KKnown191]) (.cons kKnown191 .nil) 3000 (by kernel_rfl)
def KKnown193:CF:=⟨124,[.agg wKnown16,vI 245],lstV ⟨[vI 345,vI 355,vI 395,vI 395,vI 400]⟩ 0 5 1⟩
theorem kKnown193:KKnown193.Ok Tryz.prog:=CF.of2 noNG mixed (l:=[KKnown52,KKnown53,KKnown54,KKnown55,KKnown56,KKnown57,KKnown58,KKnown59,KKnown60,KKnown61]) (.cons kKnown52 (.cons kKnown53 (.cons kKnown54 (.cons kKnown55 (.cons kKnown56 (.cons kKnown57 (.cons kKnown58 (.cons kKnown59 (.cons kKnown60 (.cons kKnown61 .nil)))))))))) 3000 (by kernel_rfl)
def KKnown194:CF:=⟨68,[.agg wKnown16,vI 245],.tuple ⟨[vI 400,vT]⟩⟩
theorem kKnown194:KKnown194.Ok Tryz.prog:=CF.of2 noNG mixed (l:=[KKnown64,KKnown193,KKnown65]) (.cons kKnown64 (.cons kKnown193 (.cons kKnown65 .nil))) 3000 (by kernel_rfl)
def KKnown195:CF:=⟨36,[.agg wKnown7,.slice none 0 0],.tuple ⟨[vI 245,vI 0]⟩⟩
theorem kKnown195:KKnown195.Ok Tryz.prog:=CF.of2 noNG mixed (l:=[KKnown160,KKnown162,KKnown164,KKnown166,KKnown168,KKnown170,KKnown172,KKnown174,KKnown176,KKnown178,KKnown51,KKnown180,KKnown182,KKnown184,KKnown186,KKnown188,KKnown190,KKnown192,KKnown194]) (.cons kKnown160 (.cons kKnown162 (.cons kKnown164 (.cons kKnown166 (.cons kKnown168 (.cons kKnown170 (.cons kKnown172 (.cons kKnown174 (.cons kKnown176 (.cons kKnown178 (.cons kKnown51 (.cons kKnown180 (.cons kKnown182 (.cons kKnown184 (.cons kKnown186 (.cons kKnown188 (.cons kKnown190 (.cons kKnown192 (.cons kKnown194 .nil))))))))))))))))))) 3000 (by kernel_rfl)
def KKnown196:CF:=⟨34,[.agg wKnown7,lstV wKnown8 0 16 8,vI 300],.tuple ⟨[vI 0,vI 9]⟩⟩
theorem kKnown196:KKnown196.Ok Tryz.prog:=CF.of2 noNG mixed (l:=[KKnown114]) (.cons kKnown114 .nil) 3000 (by kernel_rfl)
def KKnown197:CF:=⟨26,[],vT⟩
theorem kKnown197:KKnown197.Ok Tryz.prog:=CF.of2 noNG mixed (l:=[KKnown1,KKnown2,KKnown195,KKnown196,KKnown115,KKnown159]) (.cons kKnown1 (.cons kKnown2 (.cons kKnown195 (.cons kKnown196 (.cons kKnown115 (.cons kKnown159 .nil)))))) 3000 (by kernel_rfl)
def KKnown198:CF:=⟨7,[],vT⟩
theorem kKnown198:KKnown198.Ok Tryz.prog:=CF.of2 noNG mixed (l:=[KKnown128,KKnown130,KKnown50,KKnown75,KKnown81,KKnown82,KKnown83,KKnown84,KKnown85,KKnown86,KKnown87,KKnown88,KKnown89,KKnown90,KKnown91,KKnown92,KKnown93,KKnown98,KKnown99,KKnown100,KKnown101,KKnown102,KKnown103,KKnown104,KKnown105,KKnown107,KKnown108,KKnown109,KKnown110,KKnown123,KKnown124,KKnown125,KKnown127,KKnown1,KKnown2,KKnown131,KKnown132,KKnown145,KKnown49,KKnown67,KKnown197,KKnown70,KKnown73,KKnown80,KKnown115,KKnown117,KKnown119,KKnown120,KKnown121,KKnown122]) (.cons kKnown128 (.cons kKnown130 (.cons kKnown50 (.cons kKnown75 (.cons kKnown81 (.cons kKnown82 (.cons kKnown83 (.cons kKnown84 (.cons kKnown85 (.cons kKnown86 (.cons kKnown87 (.cons kKnown88 (.cons kKnown89 (.cons kKnown90 (.cons kKnown91 (.cons kKnown92 (.cons kKnown93 (.cons kKnown98 (.cons kKnown99 (.cons kKnown100 (.cons kKnown101 (.cons kKnown102 (.cons kKnown103 (.cons kKnown104 (.cons kKnown105 (.cons kKnown107 (.cons kKnown108 (.cons kKnown109 (.cons kKnown110 (.cons kKnown123 (.cons kKnown124 (.cons kKnown125 (.cons kKnown127 (.cons kKnown1 (.cons kKnown2 (.cons kKnown131 (.cons kKnown132 (.cons kKnown145 (.cons kKnown49 (.cons kKnown67 (.cons kKnown197 (.cons kKnown70 (.cons kKnown73 (.cons kKnown80 (.cons kKnown115 (.cons kKnown117 (.cons kKnown119 (.cons kKnown120 (.cons kKnown121 (.cons kKnown122 .nil)))))))))))))))))))))))))))))))))))))))))))))))))) 3000 (by kernel_rfl)
end
end Go.Proofs.YtnagkgghkoolpaaGreat
namespace Go.Gi
open Go Go.ChangeShapes Go.WideShapes Go.ChangeAt Go.RowKit
theorem joined_of {P:Program}{f:FuncId}{fn:Func}{s:ChangeSpec}{c:OpenClaim}
    (h1:laidOutB P=true) (h2:mapsRowed P=true)
    (h3:(c.inPlace == P.inPlace f)=true) (h4:(c.unfollowed == P.unfollowed f)=true) (h5:(c.recurses == P.recurses f)=true) (h6:(c.named == P.varsNamed f)=true)
    (h7:(c.plainKeys == P.plainKeys)=true) (h8:P.stopsHeard=true) (h9:P.mayEnter=true) (h10:(c.lifted == P.liftsFinal)=true) (h11:(P.make == some c.make)=true)
    (hr:(c.wf (OpenSpec.ofChange s) &&
      fn.params.all (P.readableRec ·)&&namedTie P c.named s.vars &&
      (c.stops == [])&&(P.stops == [])&&(c.knobs == [])&&(P.stopKnobs == []) &&
      (c.maps == (fn.params.toList++s.plain.varTypes P).any (P.mapsRec ·))&&(c.ifaces == (fn.params.toList++s.plain.varTypes P).any (P.ifacesRec ·))&&(c.mapsOut == P.mapsAmong fn.resultTypes.toList) &&
      (c.loops == (fn.params.toList++s.plain.varTypes P).any (P.loopsFrom ·))&&(c.wideKeys == (fn.params.toList++s.plain.varTypes P++fn.resultTypes.toList).any (P.wideKeysFrom ·)) &&
      s.vars.all (P.varReadable ·)&&fn.resultTypes.all (fun t=>P.readableRec t&&decide (t<P.types.size))&&(c.ifacesOut == fn.resultTypes.toList.any (P.ifacesRec ·))&&(c.loopsOut == fn.resultTypes.toList.any (P.loopsFrom ·))&&c.shortTexts.isNone&&(c.kinds == (if c.domain.isEmpty then [] else fn.params.toList.map fun t=>match P.underlying t with | some (.int k)=>some k | _=>none))&&(c.pinned == c.pinnedBy) &&
      (c.veiled == (fn.params.toList++s.plain.varTypes P++fn.resultTypes.toList).any (P.veiledRec ·))&&c.veiledFits P fn.params.toList (fn.params.toList++s.plain.varTypes P++fn.resultTypes.toList))=true) :
    joinedFacts P f fn s c=true:=by
  unfold joinedFacts
  rw [h1,h2,h3,h4,h5,h6,h7,h8,h9,h10,h11]
  simp only [Bool.and_true]
  exact hr
end Go.Gi
namespace Go.Proofs.YtnagkgghkoolpaaGreat
open Go.ChangeShapes Go.WideShapes Go.ChangeAt Go.RowKit Go.Gi
set_option maxRecDepth 100000
theorem jlaid:laidOutB Tryz.prog=true:=by kernel_rfl
theorem jmaps:mapsRowed Tryz.prog=true:=by kernel_rfl
theorem jheard:Tryz.prog.stopsHeard=true:=by kernel_rfl
theorem jenter:Tryz.prog.mayEnter=true:=by kernel_rfl
theorem jlifts:(Rows.countKnownRow.lifted == Tryz.prog.liftsFinal)=true:=by kernel_rfl
theorem jmake:(Tryz.prog.make == some Rows.countKnownRow.make)=true:=by kernel_rfl
end Go.Proofs.YtnagkgghkoolpaaGreat
namespace Go.Proofs.YtnagkgghkoolpaaGreat
open Go.ChangeShapes Go.WideShapes Go.ChangeAt Go.RowKit Go.Gi
set_option maxRecDepth 100000
theorem own:ownKnob Tryz.prog.godebug=none:=by kernel_rfl
theorem law7:Fact Tryz.prog (.call 7 ⟨[]⟩ ⟨[],0,[]⟩) (.ret (.bool true) ⟨[],0,[]⟩):=kKnown198 _
theorem lifted7 (os:Os)(started:os.Started)(H:Type)(enc:TypeId×Value→H) :
    ReturnsInHanded {} Tryz.checked os 7 .any (Rows.countKnownSpec.pre6 enc Tryz.prog Tryz.f7 Rows.countKnownRow.domain false) (Rows.countKnownSpec.post enc Tryz.prog Tryz.f7 false true false false):=by
  refine returnsInHanded_of_change (C:=Tryz.checked) own started (by kernel_rfl) Tryz.func7
    (ChangeSpec.witness6 (enc:=enc) (C:=Tryz.checked) false ⟨#[],#[],[]⟩ 20 (by kernel_rfl) (by kernel_rfl) (by kernel_rfl) (by kernel_rfl)) ?_
  intro W base args ds gs before hval0 hW hcnd _
  have hW':=hW
  obtain ⟨p,q,hA0,hV,rfl,hfz,hnd⟩:=hW
  have hA:DataW.TrodAll enc Tryz.prog W 0 (fun _=>true) true Tryz.f7.params.toList args.toList ds p:=hA0
  rw [Tryz.params7]at hA
  obtain ⟨hargs,rfl,rfl⟩:=trodAll_nil hA
  obtain rfl:args=#[]:=by cases args;simp_all
  obtain ⟨rfl,rfl⟩:=trodVars_none hV
  refine (calls_frozen law7 rfl (VRs.nil _)).mono fun e W' ⟨he,bel⟩=>?_
  subst he
  exact ⟨_,rfl,_,_,_,[],_,[],hW',trodAll_mk1 (shut_bool Tryz.underlying4 _),trodAll_mk0,rfl,bel.frame _,fun h=>by cases h⟩
theorem jin7:(Rows.countKnownRow.inPlace == Tryz.prog.inPlace 7)=true:=by kernel_rfl
theorem jun7:(Rows.countKnownRow.unfollowed == Tryz.prog.unfollowed 7)=true:=by kernel_rfl
theorem jre7:(Rows.countKnownRow.recurses == Tryz.prog.recurses 7)=true:=by kernel_rfl
theorem jna7:(Rows.countKnownRow.named == Tryz.prog.varsNamed 7)=true:=by kernel_rfl
theorem jpl7:(Rows.countKnownRow.plainKeys == Tryz.prog.plainKeys)=true:=by kernel_rfl
theorem joined7:joinedFacts Tryz.prog 7 Tryz.f7 Rows.countKnownSpec Rows.countKnownRow=true :=
  joined_of jlaid jmaps jin7 jun7 jre7 jna7 jpl7 jheard jenter jlifts jmake (by kernel_rfl)
theorem over7:Rows.countKnownRow.holds Tryz.pinned (OpenSpec.ofChange Rows.countKnownSpec) :=
  OpenClaim.holds_of_wide 7 Tryz.f7 rfl rfl rfl rfl rfl rfl rfl ⟨rfl,rfl,rfl,rfl,rfl⟩ rfl rfl rfl rfl rfl (by kernel_rfl) Tryz.func7 joined7
    (of_decide_eq_true (by kernel_rfl)) (by unfold Func.isWrapper;first | (rw [if_pos (by decide +kernel)];kernel_rfl) | (rw [if_neg (by decide +kernel)];exact ⟨rfl,rfl⟩))
    (fun os started H enc _=>lifted7 os started H enc)
theorem countKnownProved:Rows.CountKnownSaid:=over7
end Go.Proofs.YtnagkgghkoolpaaGreat
