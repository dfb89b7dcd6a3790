/- AimKnown proved: the examples of the document hold. Conditions: none. -/
import Derived.Test.YtlccpongnnpbeaaMg6
import Derived.Deep.Slices
import Derived.WalkKit
import Derived.ProofKit
import Derived.OpenShut
import Derived.ChangeOld
import Derived.Below
import Derived.Deep.Strs
import Derived.ChangeMaps5
import Derived.Test.YtlccpongnnpbeaaRows
import Derived.Test.YtlccpongnnpbeaaMg4
set_option linter.unusedVariables false
set_option linter.unusedSimpArgs false
namespace Go.Proofs.Ytlccpongnnpbeaa
open Go.Gi Go.RowKit
noncomputable section
set_option maxRecDepth 100000
set_option maxHeartbeats 4000000
def KKnown149:CF:=⟨115,[.agg wKnown11,.agg ⟨[vI 1,vI 1600,vI 600000,vI 850,vI 100]⟩,.agg ⟨[vI 200000,vI 999999]⟩,vI 2200],vI 210⟩
theorem kKnown149:KKnown149.Ok Try.prog:=CF.of2 noNG mixed (l:=[]) .nil 3000 (by kernel_rfl)
def KKnown150:CF:=⟨115,[.agg wKnown11,.agg ⟨[vI 2,vI 2000,vI 300000,vI 760,vI 0]⟩,.agg ⟨[vI 200000,vI 999999]⟩,vI 2200],vI 250⟩
theorem kKnown150:KKnown150.Ok Try.prog:=CF.of2 noNG mixed (l:=[]) .nil 3000 (by kernel_rfl)
def KKnown151:CF:=⟨63,[.agg wKnown11,.agg ⟨[vI 200000,vI 999999,vI 2200,vI 2200]⟩],.tuple ⟨[.agg ⟨[vI 640,vI 740]⟩,.agg ⟨[vJ 109,vI 240]⟩,vT]⟩⟩
theorem kKnown151:KKnown151.Ok Try.prog:=CF.of2 noNG mixed (l:=[KKnown108,KKnown134,KKnown136,KKnown111,KKnown82,KKnown85,KKnown149,KKnown150]) (.cons kKnown108 (.cons kKnown134 (.cons kKnown136 (.cons kKnown111 (.cons kKnown82 (.cons kKnown85 (.cons kKnown149 (.cons kKnown150 .nil)))))))) 3000 (by kernel_rfl)
def KKnown152:CF:=⟨36,[.agg wKnown11,vI 2200,vI 2200],.tuple ⟨[lstV wKnown2 0 2 6,vI 0]⟩⟩
theorem kKnown152:KKnown152.Ok Try.prog:=CF.of2 noNG mixed (l:=[KKnown65,KKnown133,KKnown148,KKnown151,KKnown57,KKnown62]) (.cons kKnown65 (.cons kKnown133 (.cons kKnown148 (.cons kKnown151 (.cons kKnown57 (.cons kKnown62 .nil)))))) 3000 (by kernel_rfl)
def KKnown153:CF:=⟨61,[.agg ⟨[vI 0,vI 0,vI 2200,vI 1951]⟩],vT⟩
theorem kKnown153:KKnown153.Ok Try.prog:=CF.of2 noNG mixed (l:=[]) .nil 3000 (by kernel_rfl)
def KKnown154:CF:=⟨114,[.agg wKnown11,vI 1951],.func (.func 116) ⟨[]⟩ ⟨[dptV wKnown11 0,dptV ⟨[vI 1951]⟩ 0]⟩⟩
theorem kKnown154:KKnown154.Ok Try.prog:=CF.of2 noNG mixed (l:=[]) .nil 3000 (by kernel_rfl)
def KKnown155:CF:=⟨63,[.agg wKnown11,.agg ⟨[vI 0,vI 199999,vI 2200,vI 1951]⟩],.tuple ⟨[.agg ⟨[vI 420,vI 580]⟩,.agg ⟨[vJ 129,vI 80]⟩,vT]⟩⟩
theorem kKnown155:KKnown155.Ok Try.prog:=CF.of2 noNG mixed (l:=[KKnown108,KKnown109,KKnown82,KKnown83,KKnown154]) (.cons kKnown108 (.cons kKnown109 (.cons kKnown82 (.cons kKnown83 (.cons kKnown154 .nil))))) 3000 (by kernel_rfl)
def KKnown156:CF:=⟨63,[.agg wKnown11,.agg ⟨[vI 200000,vI 999999,vI 2200,vI 1951]⟩],.tuple ⟨[.agg ⟨[vI 260,vI 740]⟩,.agg ⟨[vJ 289,vI 240]⟩,vT]⟩⟩
theorem kKnown156:KKnown156.Ok Try.prog:=CF.of2 noNG mixed (l:=[KKnown108,KKnown111,KKnown82,KKnown85,KKnown154]) (.cons kKnown108 (.cons kKnown111 (.cons kKnown82 (.cons kKnown85 (.cons kKnown154 .nil))))) 3000 (by kernel_rfl)
def KKnown157:CF:=⟨36,[.agg wKnown11,vI 2200,vI 1951],.tuple ⟨[lstV wKnown19 0 2 6,vI 0]⟩⟩
theorem kKnown157:KKnown157.Ok Try.prog:=CF.of2 noNG mixed (l:=[KKnown65,KKnown153,KKnown57,KKnown155,KKnown156,KKnown62]) (.cons kKnown65 (.cons kKnown153 (.cons kKnown57 (.cons kKnown155 (.cons kKnown156 (.cons kKnown62 .nil)))))) 3000 (by kernel_rfl)
def KKnown158:CF:=⟨23,[.agg wKnown1,lstV wKnown2 0 2 6],.tuple wKnown22⟩
theorem kKnown158:KKnown158.Ok Try.prog:=CF.of2 noNG mixed (l:=[KKnown33,KKnown15,KKnown21,KKnown26,KKnown30]) (.cons kKnown33 (.cons kKnown15 (.cons kKnown21 (.cons kKnown26 (.cons kKnown30 .nil))))) 3000 (by kernel_rfl)
def KKnown159:CF:=⟨27,[.agg wKnown1,.agg wKnown11,vJ 0,.slice none 0 0],.tuple ⟨[.slice none 0 0,vI 7]⟩⟩
theorem kKnown159:KKnown159.Ok Try.prog:=CF.of2 noNG mixed (l:=[KKnown57,KKnown5]) (.cons kKnown57 (.cons kKnown5 .nil)) 3000 (by kernel_rfl)
def KKnown160:CF:=⟨16,[],vT⟩
theorem kKnown160:KKnown160.Ok Try.prog:=CF.of2 noNG mixed (l:=[KKnown0,KKnown1,KKnown11,KKnown53,KKnown158,KKnown159]) (.cons kKnown0 (.cons kKnown1 (.cons kKnown11 (.cons kKnown53 (.cons kKnown158 (.cons kKnown159 .nil)))))) 3000 (by kernel_rfl)
def KKnown161:CF:=⟨4,[],vT⟩
theorem kKnown161:KKnown161.Ok Try.prog:=CF.of2 noNG mixed (l:=[KKnown0,KKnown131,KKnown15,KKnown26,KKnown5,KKnown132,KKnown30,KKnown36,KKnown53,KKnown57,KKnown123,KKnown1,KKnown2,KKnown3,KKnown4,KKnown16,KKnown17,KKnown19,KKnown20,KKnown21,KKnown23,KKnown24,KKnown152,KKnown27,KKnown29,KKnown157,KKnown160,KKnown33,KKnown34,KKnown35,KKnown39,KKnown41,KKnown43,KKnown45,KKnown46,KKnown47,KKnown50,KKnown52,KKnown58,KKnown59,KKnown60,KKnown67,KKnown77,KKnown79,KKnown87,KKnown97,KKnown104,KKnown105,KKnown113,KKnown124]) (.cons kKnown0 (.cons kKnown131 (.cons kKnown15 (.cons kKnown26 (.cons kKnown5 (.cons kKnown132 (.cons kKnown30 (.cons kKnown36 (.cons kKnown53 (.cons kKnown57 (.cons kKnown123 (.cons kKnown1 (.cons kKnown2 (.cons kKnown3 (.cons kKnown4 (.cons kKnown16 (.cons kKnown17 (.cons kKnown19 (.cons kKnown20 (.cons kKnown21 (.cons kKnown23 (.cons kKnown24 (.cons kKnown152 (.cons kKnown27 (.cons kKnown29 (.cons kKnown157 (.cons kKnown160 (.cons kKnown33 (.cons kKnown34 (.cons kKnown35 (.cons kKnown39 (.cons kKnown41 (.cons kKnown43 (.cons kKnown45 (.cons kKnown46 (.cons kKnown47 (.cons kKnown50 (.cons kKnown52 (.cons kKnown58 (.cons kKnown59 (.cons kKnown60 (.cons kKnown67 (.cons kKnown77 (.cons kKnown79 (.cons kKnown87 (.cons kKnown97 (.cons kKnown104 (.cons kKnown105 (.cons kKnown113 (.cons kKnown124 .nil)))))))))))))))))))))))))))))))))))))))))))))))))) 3000 (by kernel_rfl)
end
end Go.Proofs.Ytlccpongnnpbeaa
namespace Go.Proofs.Ytlccpongnnpbeaa
open Go.ChangeShapes Go.WideShapes Go.ChangeAt Go.RowKit Go.Gi
set_option maxRecDepth 100000
theorem own:ownKnob Try.prog.godebug=none:=by kernel_rfl
theorem law4:Fact Try.prog (.call 4 ⟨[]⟩ ⟨[],0,[]⟩) (.ret (.bool true) ⟨[],0,[]⟩):=kKnown161 _
theorem lifted4 (os:Os)(started:os.Started)(H:Type)(enc:TypeId×Value→H) :
    ReturnsInHanded {} Try.checked os 4 .any (Rows.aimKnownSpec.pre6 enc Try.prog Try.f4 Rows.aimKnownRow.domain false) (Rows.aimKnownSpec.post enc Try.prog Try.f4 false true false false):=by
  refine returnsInHanded_of_change (C:=Try.checked) own started (by kernel_rfl) Try.func4
    (ChangeSpec.witness6 (enc:=enc) (C:=Try.checked) false ⟨#[],#[],[]⟩ 20 (by kernel_rfl) (by kernel_rfl) (by kernel_rfl) (by kernel_rfl)) ?_
  intro W base args ds gs before hval0 hW hcnd _
  have hW':=hW
  obtain ⟨p,q,hA0,hV,rfl,hfz,hnd⟩:=hW
  have hA:DataW.TrodAll enc Try.prog W 0 (fun _=>true) true Try.f4.params.toList args.toList ds p:=hA0
  rw [Try.params4]at hA
  obtain ⟨hargs,rfl,rfl⟩:=trodAll_nil hA
  obtain rfl:args=#[]:=by cases args;simp_all
  obtain ⟨rfl,rfl⟩:=trodVars_none hV
  refine (calls_frozen law4 rfl (VRs.nil _)).mono fun e W' ⟨he,bel⟩=>?_
  subst he
  exact ⟨_,rfl,_,_,_,[],_,[],hW',trodAll_mk1 (shut_bool Try.underlying4 _),trodAll_mk0,rfl,bel.frame _,fun h=>by cases h⟩
theorem over4:Rows.aimKnownRow.holds Try.pinned (OpenSpec.ofChange Rows.aimKnownSpec) :=
  OpenClaim.holds_of_wide 4 Try.f4 rfl rfl rfl rfl rfl rfl rfl ⟨rfl,rfl,rfl,rfl,rfl⟩ rfl rfl rfl rfl rfl (by kernel_rfl) Try.func4 (by kernel_rfl)
    (of_decide_eq_true (by kernel_rfl)) (by unfold Func.isWrapper;first | (rw [if_pos (by decide +kernel)];kernel_rfl) | (rw [if_neg (by decide +kernel)];exact ⟨rfl,rfl⟩))
    (fun os started H enc _=>lifted4 os started H enc)
theorem aimKnownProved:Rows.AimKnownSaid:=over4
end Go.Proofs.Ytlccpongnnpbeaa
