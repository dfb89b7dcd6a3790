/- FlightKnown proved: the examples of the document hold. Conditions: none. -/
import Derived.Test.YtnmjibcolnlkjaaMg6
import Derived.Test.YtnmjibcolnlkjaaMg7
import Derived.Deep.Slices
import Derived.WalkKit
import Derived.ProofKit
import Derived.OpenShut
import Derived.ChangeOld
import Derived.Below
import Derived.Deep.Strs
import Derived.ChangeMaps5
import Derived.Test.YtnmjibcolnlkjaaRows
import Derived.Test.YtnmjibcolnlkjaaMg4
set_option linter.unusedVariables false
set_option linter.unusedSimpArgs false
namespace Go.Proofs.Ytnmjibcolnlkjaa
open Go.Gi Go.RowKit
noncomputable section
set_option maxRecDepth 100000
set_option maxHeartbeats 4000000
def KKnown465:CF:=⟨91,[.agg ⟨[vJ 1,vI 2,vI 0,vI 0,vJ 449,vJ 449]⟩,.func (.func 105) ⟨[]⟩ ⟨[]⟩,.agg ⟨[vI 0,vI 0,vI 0,vI 0,vJ 97,vJ 97]⟩],.agg ⟨[vJ 1,vI 2,vI 0,vI 0,vJ 547,vJ 547]⟩⟩
theorem kKnown465:KKnown465.Ok Try.prog:=CF.of2 noNG mixed (l:=[]) .nil 3000 (by kernel_rfl)
def KKnown466:CF:=⟨91,[.agg ⟨[vJ 48,vI 49,vI 0,vI 0,vI 17150,vI 17150]⟩,.func (.func 105) ⟨[]⟩ ⟨[]⟩,.agg ⟨[vJ 1,vI 2,vI 0,vI 0,vJ 547,vJ 547]⟩],.agg ⟨[vJ 50,vI 51,vI 0,vI 0,vI 16602,vI 16602]⟩⟩
theorem kKnown466:KKnown466.Ok Try.prog:=CF.of2 noNG mixed (l:=[]) .nil 3000 (by kernel_rfl)
def KKnown467:CF:=⟨119,[.agg wKnown33,.agg ⟨[vI 0,vI 0,vI 0,vI 0,vJ 97,vJ 97]⟩],.agg wKnown34⟩
theorem kKnown467:KKnown467.Ok Try.prog:=CF.of2 noNG mixed (l:=[KKnown465,KKnown466]) (.cons kKnown465 (.cons kKnown466 .nil)) 3000 (by kernel_rfl)
def KKnown468:CF:=⟨71,[.func (.func 118) ⟨[]⟩ wKnown12],.tuple ⟨[lstV wKnown35 0 26 12,vI 0]⟩⟩
theorem kKnown468:KKnown468.Ok Try.prog:=CF.of2 noNG mixed (l:=[KKnown13,KKnown49,KKnown50,KKnown53,KKnown55,KKnown58,KKnown59,KKnown60,KKnown68,KKnown71,KKnown74,KKnown75,KKnown76,KKnown85,KKnown88,KKnown91,KKnown92,KKnown93,KKnown101,KKnown104,KKnown118,KKnown119,KKnown120,KKnown128,KKnown131,KKnown134,KKnown135,KKnown136,KKnown144,KKnown147,KKnown150,KKnown151,KKnown152,KKnown160,KKnown163,KKnown166,KKnown167,KKnown168,KKnown176,KKnown179,KKnown182,KKnown183,KKnown184,KKnown192,KKnown195,KKnown198,KKnown199,KKnown200,KKnown208,KKnown211,KKnown214,KKnown215,KKnown216,KKnown224,KKnown227,KKnown230,KKnown231,KKnown232,KKnown240,KKnown243,KKnown246,KKnown247,KKnown248,KKnown256,KKnown259,KKnown262,KKnown263,KKnown264,KKnown272,KKnown275,KKnown278,KKnown279,KKnown280,KKnown288,KKnown291,KKnown294,KKnown295,KKnown296,KKnown304,KKnown307,KKnown310,KKnown311,KKnown312,KKnown320,KKnown323,KKnown326,KKnown327,KKnown328,KKnown336,KKnown339,KKnown342,KKnown343,KKnown344,KKnown352,KKnown355,KKnown358,KKnown359,KKnown360,KKnown368,KKnown371,KKnown374,KKnown375,KKnown376,KKnown384,KKnown387,KKnown390,KKnown391,KKnown392,KKnown400,KKnown403,KKnown406,KKnown407,KKnown408,KKnown416,KKnown419,KKnown422,KKnown423,KKnown424,KKnown432,KKnown435,KKnown438,KKnown439,KKnown440,KKnown448,KKnown451,KKnown454,KKnown455,KKnown456,KKnown464,KKnown467]) (.cons kKnown13 (.cons kKnown49 (.cons kKnown50 (.cons kKnown53 (.cons kKnown55 (.cons kKnown58 (.cons kKnown59 (.cons kKnown60 (.cons kKnown68 (.cons kKnown71 (.cons kKnown74 (.cons kKnown75 (.cons kKnown76 (.cons kKnown85 (.cons kKnown88 (.cons kKnown91 (.cons kKnown92 (.cons kKnown93 (.cons kKnown101 (.cons kKnown104 (.cons kKnown118 (.cons kKnown119 (.cons kKnown120 (.cons kKnown128 (.cons kKnown131 (.cons kKnown134 (.cons kKnown135 (.cons kKnown136 (.cons kKnown144 (.cons kKnown147 (.cons kKnown150 (.cons kKnown151 (.cons kKnown152 (.cons kKnown160 (.cons kKnown163 (.cons kKnown166 (.cons kKnown167 (.cons kKnown168 (.cons kKnown176 (.cons kKnown179 (.cons kKnown182 (.cons kKnown183 (.cons kKnown184 (.cons kKnown192 (.cons kKnown195 (.cons kKnown198 (.cons kKnown199 (.cons kKnown200 (.cons kKnown208 (.cons kKnown211 (.cons kKnown214 (.cons kKnown215 (.cons kKnown216 (.cons kKnown224 (.cons kKnown227 (.cons kKnown230 (.cons kKnown231 (.cons kKnown232 (.cons kKnown240 (.cons kKnown243 (.cons kKnown246 (.cons kKnown247 (.cons kKnown248 (.cons kKnown256 (.cons kKnown259 (.cons kKnown262 (.cons kKnown263 (.cons kKnown264 (.cons kKnown272 (.cons kKnown275 (.cons kKnown278 (.cons kKnown279 (.cons kKnown280 (.cons kKnown288 (.cons kKnown291 (.cons kKnown294 (.cons kKnown295 (.cons kKnown296 (.cons kKnown304 (.cons kKnown307 (.cons kKnown310 (.cons kKnown311 (.cons kKnown312 (.cons kKnown320 (.cons kKnown323 (.cons kKnown326 (.cons kKnown327 (.cons kKnown328 (.cons kKnown336 (.cons kKnown339 (.cons kKnown342 (.cons kKnown343 (.cons kKnown344 (.cons kKnown352 (.cons kKnown355 (.cons kKnown358 (.cons kKnown359 (.cons kKnown360 (.cons kKnown368 (.cons kKnown371 (.cons kKnown374 (.cons kKnown375 (.cons kKnown376 (.cons kKnown384 (.cons kKnown387 (.cons kKnown390 (.cons kKnown391 (.cons kKnown392 (.cons kKnown400 (.cons kKnown403 (.cons kKnown406 (.cons kKnown407 (.cons kKnown408 (.cons kKnown416 (.cons kKnown419 (.cons kKnown422 (.cons kKnown423 (.cons kKnown424 (.cons kKnown432 (.cons kKnown435 (.cons kKnown438 (.cons kKnown439 (.cons kKnown440 (.cons kKnown448 (.cons kKnown451 (.cons kKnown454 (.cons kKnown455 (.cons kKnown456 (.cons kKnown464 (.cons kKnown467 .nil)))))))))))))))))))))))))))))))))))))))))))))))))))))))))))))))))))))))))))))))))))))))))))))))))))))))))))))))))))))))))))))))))) 3000 (by kernel_rfl)
def KKnown469:CF:=⟨27,[.agg wKnown1,.agg ⟨[vI 0,vI 0,vI 10000]⟩,lstV ⟨[vI 0,vI 100000,vI 300,vI 300,vI 0,vI 0]⟩ 0 1 6,vI 25],.tuple ⟨[lstV wKnown35 0 26 12,vI 0]⟩⟩
theorem kKnown469:KKnown469.Ok Try.prog:=CF.of2 noNG mixed (l:=[KKnown10,KKnown115,KKnown468]) (.cons kKnown10 (.cons kKnown115 (.cons kKnown468 .nil))) 3000 (by kernel_rfl)
def KKnown470:CF:=⟨29,[.agg wKnown1,.agg ⟨[vI 0,vI 0,vI 10000]⟩,lstV ⟨[vI 0,vI 100000,vI 300,vI 300,vI 0,vI 0]⟩ 0 1 6,vI 25],.tuple ⟨[.agg ⟨[vI 18420,vI 18420]⟩,vI 0]⟩⟩
theorem kKnown470:KKnown470.Ok Try.prog:=CF.of2 noNG mixed (l:=[KKnown469]) (.cons kKnown469 .nil) 3000 (by kernel_rfl)
def KKnown471:CF:=⟨29,[.agg wKnown1,.agg ⟨[vI 0,vI 0,vI 10000]⟩,lstV ⟨[vI 0,vI 100000,vI 300,vI 300,vI 0,vI 0]⟩ 0 1 6,vI 3],.tuple ⟨[.agg ⟨[vI 4412,vI 4412]⟩,vI 0]⟩⟩
theorem kKnown471:KKnown471.Ok Try.prog:=CF.of2 noNG mixed (l:=[KKnown106]) (.cons kKnown106 .nil) 3000 (by kernel_rfl)
def KKnown472:CF:=⟨26,[vI 18420,vI 18420],.agg ⟨[vI 18420,vI 18420]⟩⟩
theorem kKnown472:KKnown472.Ok Try.prog:=CF.of2 noNG mixed (l:=[]) .nil 3000 (by kernel_rfl)
def KKnown473:CF:=⟨74,[.agg ⟨[vI 0,vI 0,vI 0,vI 0,vI 0,vI 0]⟩],.agg ⟨[vI 0,vI 0,vI 0,vI 0,vI 0,vI 0,vI 0,vI 0,vI 0,vI 0,vI 0,vI 0]⟩⟩
theorem kKnown473:KKnown473.Ok Try.prog:=CF.of2 noNG mixed (l:=[]) .nil 3000 (by kernel_rfl)
def KKnown474:CF:=⟨74,[.agg ⟨[vI 1,vI 0,vI 902,vI 1,vI 0,vI 902]⟩],.agg wKnown36⟩
theorem kKnown474:KKnown474.Ok Try.prog:=CF.of2 noNG mixed (l:=[]) .nil 3000 (by kernel_rfl)
def KKnown475:CF:=⟨86,[.agg ⟨[vI 1,vI 1,vI 0,vI 0,vI 902,vI 902]⟩,vI 2000000000],vT⟩
theorem kKnown475:KKnown475.Ok Try.prog:=CF.of2 noNG mixed (l:=[]) .nil 3000 (by kernel_rfl)
def KKnown476:CF:=⟨86,[.agg ⟨[vI 1,vI 1,vI 0,vI 0,vI 902,vI 902]⟩,vI 1000000],vT⟩
theorem kKnown476:KKnown476.Ok Try.prog:=CF.of2 noNG mixed (l:=[]) .nil 3000 (by kernel_rfl)
def KKnown477:CF:=⟨68,[.agg wKnown36],vF⟩
theorem kKnown477:KKnown477.Ok Try.prog:=CF.of2 noNG mixed (l:=[KKnown475,KKnown476]) (.cons kKnown475 (.cons kKnown476 .nil)) 3000 (by kernel_rfl)
def KKnown478:CF:=⟨74,[.agg ⟨[vI 1,vI 0,vI 2706,vI 0,vI 0,vI 1804]⟩],.agg wKnown37⟩
theorem kKnown478:KKnown478.Ok Try.prog:=CF.of2 noNG mixed (l:=[]) .nil 3000 (by kernel_rfl)
def KKnown479:CF:=⟨86,[.agg ⟨[vI 1,vI 1,vI 0,vI 0,vI 2706,vI 2706]⟩,vI 2000000000],vT⟩
theorem kKnown479:KKnown479.Ok Try.prog:=CF.of2 noNG mixed (l:=[]) .nil 3000 (by kernel_rfl)
def KKnown480:CF:=⟨86,[.agg ⟨[vI 0,vI 0,vI 0,vI 0,vI 1804,vI 1804]⟩,vI 1000000],vT⟩
theorem kKnown480:KKnown480.Ok Try.prog:=CF.of2 noNG mixed (l:=[]) .nil 3000 (by kernel_rfl)
def KKnown481:CF:=⟨68,[.agg wKnown37],vF⟩
theorem kKnown481:KKnown481.Ok Try.prog:=CF.of2 noNG mixed (l:=[KKnown480,KKnown479]) (.cons kKnown480 (.cons kKnown479 .nil)) 3000 (by kernel_rfl)
def KKnown482:CF:=⟨91,[.agg ⟨[vI 1,vI 1,vI 0,vI 0,vI 902,vI 902]⟩,.func (.func 98) ⟨[]⟩ ⟨[]⟩,.agg ⟨[vI 0,vI 0,vI 0,vI 0,vI 0,vI 0]⟩],.agg ⟨[vI 1,vI 1,vI 0,vI 0,vI 902,vI 902]⟩⟩
theorem kKnown482:KKnown482.Ok Try.prog:=CF.of2 noNG mixed (l:=[]) .nil 3000 (by kernel_rfl)
def KKnown483:CF:=⟨91,[.agg ⟨[vI 0,vI 0,vI 0,vI 0,vI 0,vI 0]⟩,.func (.func 105) ⟨[]⟩ ⟨[]⟩,.agg ⟨[vI 1,vI 1,vI 0,vI 0,vI 902,vI 902]⟩],.agg ⟨[vI 1,vI 1,vI 0,vI 0,vI 902,vI 902]⟩⟩
theorem kKnown483:KKnown483.Ok Try.prog:=CF.of2 noNG mixed (l:=[]) .nil 3000 (by kernel_rfl)
def KKnown484:CF:=⟨75,[.agg wKnown36,.agg ⟨[vI 0,vI 0,vI 0,vI 0,vI 0,vI 0,vI 0,vI 0,vI 0,vI 0,vI 0,vI 0]⟩,.agg ⟨[vJ 0,vI 1,vI 0,vI 0,vI 902,vI 902]⟩],vT⟩
theorem kKnown484:KKnown484.Ok Try.prog:=CF.of2 noNG mixed (l:=[KKnown482,KKnown483]) (.cons kKnown482 (.cons kKnown483 .nil)) 3000 (by kernel_rfl)
def KKnown485:CF:=⟨91,[.agg ⟨[vI 1,vI 1,vI 0,vI 0,vI 902,vI 902]⟩,.func (.func 98) ⟨[]⟩ ⟨[]⟩,.agg ⟨[vI 300,vI 300,vI 0,vI 0,vI 0,vI 0]⟩],.agg ⟨[vJ 298,vJ 298,vI 0,vI 0,vI 902,vI 902]⟩⟩
theorem kKnown485:KKnown485.Ok Try.prog:=CF.of2 noNG mixed (l:=[]) .nil 3000 (by kernel_rfl)
def KKnown486:CF:=⟨125,[.agg ⟨[vI 903005,vI 903005]⟩],.agg ⟨[vI 950,vI 951]⟩⟩
theorem kKnown486:KKnown486.Ok Try.prog:=CF.of2 noNG mixed (l:=[]) .nil 3000 (by kernel_rfl)
def KKnown487:CF:=⟨116,[.agg ⟨[vJ 298,vJ 298,vI 0,vI 0,vI 902,vI 902]⟩],.agg ⟨[vI 950,vI 951]⟩⟩
theorem kKnown487:KKnown487.Ok Try.prog:=CF.of2 noNG mixed (l:=[KKnown486]) (.cons kKnown486 .nil) 3000 (by kernel_rfl)
def KKnown488:CF:=⟨91,[.agg ⟨[vJ 298,vJ 298,vI 0,vI 0,vI 902,vI 902]⟩,.func (.func 111) ⟨[]⟩ ⟨[]⟩,.agg ⟨[vI 0,vI 0,vI 0,vI 0,vI 0,vI 0]⟩],.agg ⟨[vI 0,vI 0,vI 0,vI 0,vI 0,vI 0]⟩⟩
theorem kKnown488:KKnown488.Ok Try.prog:=CF.of2 noNG mixed (l:=[]) .nil 3000 (by kernel_rfl)
def KKnown489:CF:=⟨112,[.agg ⟨[vJ 298,vJ 298,vI 0,vI 0,vI 902,vI 902]⟩,.func (.func 111) ⟨[]⟩ ⟨[]⟩,.agg ⟨[vI 0,vI 0]⟩],.agg ⟨[vI 0,vI 0,vI 0,vI 0,vI 0,vI 0]⟩⟩
theorem kKnown489:KKnown489.Ok Try.prog:=CF.of2 noNG mixed (l:=[KKnown488]) (.cons kKnown488 .nil) 3000 (by kernel_rfl)
def KKnown490:CF:=⟨99,[.agg wKnown3,.agg wKnown0,.agg wKnown36],.agg ⟨[vI 0,vI 0,vI 0,vI 0,vI 0,vI 0]⟩⟩
theorem kKnown490:KKnown490.Ok Try.prog:=CF.of2 noNG mixed (l:=[KKnown485,KKnown487,KKnown489,KKnown27,KKnown61]) (.cons kKnown485 (.cons kKnown487 (.cons kKnown489 (.cons kKnown27 (.cons kKnown61 .nil))))) 3000 (by kernel_rfl)
def KKnown491:CF:=⟨69,[.agg wKnown3,.agg wKnown0,.agg wKnown36],.agg ⟨[vJ 0,vI 1,vI 0,vI 0,vI 902,vI 902]⟩⟩
theorem kKnown491:KKnown491.Ok Try.prog:=CF.of2 noNG mixed (l:=[KKnown490,KKnown19,KKnown29,KKnown30]) (.cons kKnown490 (.cons kKnown19 (.cons kKnown29 (.cons kKnown30 .nil)))) 3000 (by kernel_rfl)
def KKnown492:CF:=⟨91,[.agg ⟨[vI 0,vI 0,vI 0,vI 0,vI 1804,vI 1804]⟩,.func (.func 98) ⟨[]⟩ ⟨[]⟩,.agg ⟨[vI 1,vI 1,vI 0,vI 0,vI 902,vI 902]⟩],.agg ⟨[vJ 0,vJ 0,vI 0,vI 0,vI 902,vI 902]⟩⟩
theorem kKnown492:KKnown492.Ok Try.prog:=CF.of2 noNG mixed (l:=[]) .nil 3000 (by kernel_rfl)
def KKnown493:CF:=⟨91,[.agg ⟨[vI 1,vI 1,vI 0,vI 0,vI 902,vI 902]⟩,.func (.func 105) ⟨[]⟩ ⟨[]⟩,.agg ⟨[vI 0,vI 0,vI 0,vI 0,vI 1804,vI 1804]⟩],.agg ⟨[vI 1,vI 1,vI 0,vI 0,vI 2706,vI 2706]⟩⟩
theorem kKnown493:KKnown493.Ok Try.prog:=CF.of2 noNG mixed (l:=[]) .nil 3000 (by kernel_rfl)
def KKnown494:CF:=⟨75,[.agg wKnown37,.agg wKnown36,.agg ⟨[vJ 0,vI 1,vI 0,vI 0,vI 902,vI 902]⟩],vT⟩
theorem kKnown494:KKnown494.Ok Try.prog:=CF.of2 noNG mixed (l:=[KKnown492,KKnown493]) (.cons kKnown492 (.cons kKnown493 .nil)) 3000 (by kernel_rfl)
def KKnown495:CF:=⟨74,[.agg ⟨[vI 2,vI 0,vI 902,vI 2,vI 0,vI 902]⟩],.agg wKnown38⟩
theorem kKnown495:KKnown495.Ok Try.prog:=CF.of2 noNG mixed (l:=[]) .nil 3000 (by kernel_rfl)
def KKnown496:CF:=⟨86,[.agg ⟨[vI 2,vI 2,vI 0,vI 0,vI 902,vI 902]⟩,vI 2000000000],vT⟩
theorem kKnown496:KKnown496.Ok Try.prog:=CF.of2 noNG mixed (l:=[]) .nil 3000 (by kernel_rfl)
def KKnown497:CF:=⟨86,[.agg ⟨[vI 2,vI 2,vI 0,vI 0,vI 902,vI 902]⟩,vI 1000000],vT⟩
theorem kKnown497:KKnown497.Ok Try.prog:=CF.of2 noNG mixed (l:=[]) .nil 3000 (by kernel_rfl)
def KKnown498:CF:=⟨68,[.agg wKnown38],vF⟩
theorem kKnown498:KKnown498.Ok Try.prog:=CF.of2 noNG mixed (l:=[KKnown496,KKnown497]) (.cons kKnown496 (.cons kKnown497 .nil)) 3000 (by kernel_rfl)
def KKnown499:CF:=⟨91,[.agg ⟨[vI 2,vI 2,vI 0,vI 0,vI 902,vI 902]⟩,.func (.func 98) ⟨[]⟩ ⟨[]⟩,.agg ⟨[vI 0,vI 0,vI 0,vI 0,vI 0,vI 0]⟩],.agg ⟨[vI 2,vI 2,vI 0,vI 0,vI 902,vI 902]⟩⟩
theorem kKnown499:KKnown499.Ok Try.prog:=CF.of2 noNG mixed (l:=[]) .nil 3000 (by kernel_rfl)
def KKnown500:CF:=⟨75,[.agg wKnown38,.agg ⟨[vI 0,vI 0,vI 0,vI 0,vI 0,vI 0,vI 0,vI 0,vI 0,vI 0,vI 0,vI 0]⟩,.agg ⟨[vJ 0,vI 1,vI 0,vI 0,vI 902,vI 902]⟩],vF⟩
theorem kKnown500:KKnown500.Ok Try.prog:=CF.of2 noNG mixed (l:=[KKnown499]) (.cons kKnown499 .nil) 3000 (by kernel_rfl)
def KKnown501:CF:=⟨31,[],.agg wKnown40⟩
theorem kKnown501:KKnown501.Ok Try.prog:=CF.of2 noNG mixed (l:=[]) .nil 3000 (by kernel_rfl)
def KKnown502:CF:=⟨26,[vI 5000,vI 5000],.agg ⟨[vI 5000,vI 5000]⟩⟩
theorem kKnown502:KKnown502.Ok Try.prog:=CF.of2 noNG mixed (l:=[]) .nil 3000 (by kernel_rfl)
def KKnown503:CF:=⟨26,[vI 300,vI 300],.agg ⟨[vI 300,vI 300]⟩⟩
theorem kKnown503:KKnown503.Ok Try.prog:=CF.of2 noNG mixed (l:=[]) .nil 3000 (by kernel_rfl)
def KKnown504:CF:=⟨26,[vI 10000,vI 10000],.agg ⟨[vI 10000,vI 10000]⟩⟩
theorem kKnown504:KKnown504.Ok Try.prog:=CF.of2 noNG mixed (l:=[]) .nil 3000 (by kernel_rfl)
def KKnown505:CF:=⟨45,[lstV wKnown39 0 1 13],.tuple ⟨[vI 0,vI 0]⟩⟩
theorem kKnown505:KKnown505.Ok Try.prog:=CF.of2 noNG mixed (l:=[KKnown4]) (.cons kKnown4 .nil) 3000 (by kernel_rfl)
def KKnown506:CF:=⟨13,[.agg wKnown40],.tuple ⟨[vI 0,vI 0,vI 0]⟩⟩
theorem kKnown506:KKnown506.Ok Try.prog:=CF.of2 noNG mixed (l:=[KKnown505,KKnown3]) (.cons kKnown505 (.cons kKnown3 .nil)) 3000 (by kernel_rfl)
def KKnown507:CF:=⟨63,[lstV ⟨[vI 0,vI 1000]⟩ 0 1 2],lstV ⟨[vI 0,vI 1000,vI 1000]⟩ 0 1 3⟩
theorem kKnown507:KKnown507.Ok Try.prog:=CF.of2 noNG mixed (l:=[]) .nil 3000 (by kernel_rfl)
def KKnown508:CF:=⟨66,[.agg wKnown40,.agg ⟨[vI 0,vI 0,vI 10000]⟩,lstV ⟨[vI 0,vI 100000,vI 300,vI 300,vI 0,vI 0]⟩ 0 1 6],.tuple ⟨[.agg wKnown41,vI 0]⟩⟩
theorem kKnown508:KKnown508.Ok Try.prog:=CF.of2 noNG mixed (l:=[KKnown8,KKnown506,KKnown507,KKnown7]) (.cons kKnown8 (.cons kKnown506 (.cons kKnown507 (.cons kKnown7 .nil)))) 3000 (by kernel_rfl)
def KKnown509:CF:=⟨86,[.agg ⟨[vI 0,vI 0,vI 0,vI 0,vI 5000,vI 5000]⟩,vI 2000000000],vT⟩
theorem kKnown509:KKnown509.Ok Try.prog:=CF.of2 noNG mixed (l:=[]) .nil 3000 (by kernel_rfl)
def KKnown510:CF:=⟨86,[.agg ⟨[vI 300,vI 300,vI 0,vI 0,vI 10000,vI 10000]⟩,vI 1000000],vT⟩
theorem kKnown510:KKnown510.Ok Try.prog:=CF.of2 noNG mixed (l:=[]) .nil 3000 (by kernel_rfl)
def KKnown511:CF:=⟨68,[.agg wKnown42],vF⟩
theorem kKnown511:KKnown511.Ok Try.prog:=CF.of2 noNG mixed (l:=[KKnown509,KKnown510]) (.cons kKnown509 (.cons kKnown510 .nil)) 3000 (by kernel_rfl)
def KKnown512:CF:=⟨97,[.agg wKnown41,.agg wKnown43],.agg ⟨[vI 0,vI 0,vI 0,vI 0,vI 0,vI 0]⟩⟩
theorem kKnown512:KKnown512.Ok Try.prog:=CF.of2 noNG mixed (l:=[KKnown33,KKnown35,KKnown37]) (.cons kKnown33 (.cons kKnown35 (.cons kKnown37 .nil))) 3000 (by kernel_rfl)
def KKnown513:CF:=⟨55,[lstV wKnown2 0 2 7,.agg ⟨[vI 5000,vI 5000]⟩,.func (.func 57) ⟨[]⟩ ⟨[]⟩],.agg ⟨[vI 300,vI 300,vI 0,vI 0,vI 0,vI 0]⟩⟩
theorem kKnown513:KKnown513.Ok Try.prog:=CF.of2 noNG mixed (l:=[]) .nil 3000 (by kernel_rfl)
def KKnown514:CF:=⟨91,[.agg ⟨[vI 300,vI 300,vI 0,vI 0,vI 10000,vI 10000]⟩,.func (.func 98) ⟨[]⟩ ⟨[]⟩,.agg ⟨[vI 300,vI 300,vI 0,vI 0,vI 0,vI 0]⟩],.agg ⟨[vI 0,vI 0,vI 0,vI 0,vI 10000,vI 10000]⟩⟩
theorem kKnown514:KKnown514.Ok Try.prog:=CF.of2 noNG mixed (l:=[]) .nil 3000 (by kernel_rfl)
def KKnown515:CF:=⟨125,[.agg ⟨[vI 100000000,vI 100000000]⟩],.agg ⟨[vI 10000,vI 10000]⟩⟩
theorem kKnown515:KKnown515.Ok Try.prog:=CF.of2 noNG mixed (l:=[]) .nil 3000 (by kernel_rfl)
def KKnown516:CF:=⟨116,[.agg ⟨[vI 0,vI 0,vI 0,vI 0,vI 10000,vI 10000]⟩],.agg ⟨[vI 10000,vI 10000]⟩⟩
theorem kKnown516:KKnown516.Ok Try.prog:=CF.of2 noNG mixed (l:=[KKnown515]) (.cons kKnown515 .nil) 3000 (by kernel_rfl)
def KKnown517:CF:=⟨91,[.agg ⟨[vI 0,vI 0,vI 0,vI 0,vI 10000,vI 10000]⟩,.func (.func 111) ⟨[]⟩ ⟨[]⟩,.agg wKnown44],.agg ⟨[vI 0,vI 0,vI 0,vI 0,vI 1000000000000,vI 1000000000000]⟩⟩
theorem kKnown517:KKnown517.Ok Try.prog:=CF.of2 noNG mixed (l:=[]) .nil 3000 (by kernel_rfl)
def KKnown518:CF:=⟨112,[.agg ⟨[vI 0,vI 0,vI 0,vI 0,vI 10000,vI 10000]⟩,.func (.func 111) ⟨[]⟩ ⟨[]⟩,.agg ⟨[vI 100000000,vI 100000000]⟩],.agg ⟨[vI 0,vI 0,vI 0,vI 0,vI 1000000000000,vI 1000000000000]⟩⟩
theorem kKnown518:KKnown518.Ok Try.prog:=CF.of2 noNG mixed (l:=[KKnown517]) (.cons kKnown517 .nil) 3000 (by kernel_rfl)
def KKnown519:CF:=⟨91,[.agg ⟨[vI 0,vI 0,vI 0,vI 0,vI 1000000000000,vI 1000000000000]⟩,.func (.func 113) ⟨[]⟩ ⟨[]⟩,.agg wKnown4],.agg ⟨[vI 0,vI 0,vI 0,vI 0,vI 100,vI 100]⟩⟩
theorem kKnown519:KKnown519.Ok Try.prog:=CF.of2 noNG mixed (l:=[]) .nil 3000 (by kernel_rfl)
def KKnown520:CF:=⟨112,[.agg ⟨[vI 0,vI 0,vI 0,vI 0,vI 1000000000000,vI 1000000000000]⟩,.func (.func 113) ⟨[]⟩ ⟨[]⟩,.agg ⟨[vI 10000000000,vI 10000000000]⟩],.agg ⟨[vI 0,vI 0,vI 0,vI 0,vI 100,vI 100]⟩⟩
theorem kKnown520:KKnown520.Ok Try.prog:=CF.of2 noNG mixed (l:=[KKnown519]) (.cons kKnown519 .nil) 3000 (by kernel_rfl)
def KKnown521:CF:=⟨99,[.agg wKnown41,.agg wKnown43,.agg wKnown42],.agg ⟨[vI 0,vI 0,vI 0,vI 0,vI 100,vI 100]⟩⟩
theorem kKnown521:KKnown521.Ok Try.prog:=CF.of2 noNG mixed (l:=[KKnown513,KKnown514,KKnown516,KKnown518,KKnown520]) (.cons kKnown513 (.cons kKnown514 (.cons kKnown516 (.cons kKnown518 (.cons kKnown520 .nil))))) 3000 (by kernel_rfl)
def KKnown522:CF:=⟨91,[.agg ⟨[vI 0,vI 0,vI 0,vI 0,vI 0,vI 0]⟩,.func (.func 98) ⟨[]⟩ ⟨[]⟩,.agg ⟨[vI 0,vI 0,vI 0,vI 0,vI 100,vI 100]⟩],.agg ⟨[vI 0,vI 0,vI 0,vI 0,vJ 99,vJ 99]⟩⟩
theorem kKnown522:KKnown522.Ok Try.prog:=CF.of2 noNG mixed (l:=[]) .nil 3000 (by kernel_rfl)
def KKnown523:CF:=⟨91,[.agg ⟨[vI 0,vI 0,vI 0,vI 0,vJ 99,vJ 99]⟩,.func (.func 98) ⟨[]⟩ ⟨[]⟩,.agg ⟨[vI 0,vI 0,vI 0,vI 0,vI 98,vI 98]⟩],.agg ⟨[vI 0,vI 0,vI 0,vI 0,vJ 197,vJ 197]⟩⟩
theorem kKnown523:KKnown523.Ok Try.prog:=CF.of2 noNG mixed (l:=[]) .nil 3000 (by kernel_rfl)
def KKnown524:CF:=⟨69,[.agg wKnown41,.agg wKnown43,.agg wKnown42],.agg ⟨[vI 0,vI 0,vI 0,vI 0,vJ 197,vJ 197]⟩⟩
theorem kKnown524:KKnown524.Ok Try.prog:=CF.of2 noNG mixed (l:=[KKnown512,KKnown521,KKnown522,KKnown523]) (.cons kKnown512 (.cons kKnown521 (.cons kKnown522 (.cons kKnown523 .nil)))) 3000 (by kernel_rfl)
def KKnown525:CF:=⟨25,[.agg wKnown40,.agg ⟨[vI 0,vI 0,vI 10000]⟩,lstV ⟨[vI 0,vI 100000,vI 300,vI 300,vI 0,vI 0]⟩ 0 1 6,vI 2,.agg wKnown42],.tuple ⟨[.agg ⟨[vI 0,vI 0,vI 0,vI 0,vJ 197,vJ 197]⟩,vI 0]⟩⟩
theorem kKnown525:KKnown525.Ok Try.prog:=CF.of2 noNG mixed (l:=[KKnown508,KKnown524,KKnown511]) (.cons kKnown508 (.cons kKnown524 (.cons kKnown511 .nil))) 3000 (by kernel_rfl)
def KKnown526:CF:=⟨26,[vI 0,vI 99999],.agg ⟨[vI 0,vI 99999]⟩⟩
theorem kKnown526:KKnown526.Ok Try.prog:=CF.of2 noNG mixed (l:=[]) .nil 3000 (by kernel_rfl)
def KKnown527:CF:=⟨55,[lstV wKnown2 0 2 7,.agg ⟨[vI 0,vI 99999]⟩,.func (.func 57) ⟨[]⟩ ⟨[]⟩],.agg ⟨[vI 300,vI 300,vI 0,vI 0,vI 0,vI 0]⟩⟩
theorem kKnown527:KKnown527.Ok Try.prog:=CF.of2 noNG mixed (l:=[]) .nil 3000 (by kernel_rfl)
def KKnown528:CF:=⟨18,[lstV ⟨[vI 0,vI 100000,vI 300,vI 300,vI 0,vI 0]⟩ 0 1 6,.agg ⟨[vI 0,vI 99999]⟩],.tuple ⟨[.agg ⟨[vI 300,vI 300,vI 0,vI 0]⟩,vI 0]⟩⟩
theorem kKnown528:KKnown528.Ok Try.prog:=CF.of2 noNG mixed (l:=[KKnown8,KKnown527,KKnown7]) (.cons kKnown8 (.cons kKnown527 (.cons kKnown7 .nil))) 3000 (by kernel_rfl)
def KKnown529:CF:=⟨26,[vI 0,vI 100000],.agg ⟨[vI 0,vI 100000]⟩⟩
theorem kKnown529:KKnown529.Ok Try.prog:=CF.of2 noNG mixed (l:=[]) .nil 3000 (by kernel_rfl)
def KKnown530:CF:=⟨91,[.agg ⟨[vI 300,vI 300,vI 0,vI 0,vI 0,vI 0]⟩,.func (.func 64) ⟨[]⟩ ⟨[]⟩,.agg ⟨[vI 0,vI 0,vI 0,vI 0,vI 0,vI 0]⟩],.agg ⟨[vI 0,vI 300,vI 0,vI 0,vI 0,vI 0]⟩⟩
theorem kKnown530:KKnown530.Ok Try.prog:=CF.of2 noNG mixed (l:=[]) .nil 3000 (by kernel_rfl)
def KKnown531:CF:=⟨57,[.agg ⟨[vI 300,vI 300,vI 0,vI 0,vI 0,vI 0]⟩,.agg ⟨[vI 0,vI 0,vI 0,vI 0,vI 0,vI 0]⟩],.agg ⟨[vI 0,vI 300,vI 0,vI 0,vI 0,vI 0]⟩⟩
theorem kKnown531:KKnown531.Ok Try.prog:=CF.of2 noNG mixed (l:=[KKnown530]) (.cons kKnown530 .nil) 3000 (by kernel_rfl)
def KKnown532:CF:=⟨55,[lstV wKnown2 0 2 7,.agg ⟨[vI 0,vI 100000]⟩,.func (.func 57) ⟨[]⟩ ⟨[]⟩],.agg ⟨[vI 0,vI 300,vI 0,vI 0,vI 0,vI 0]⟩⟩
theorem kKnown532:KKnown532.Ok Try.prog:=CF.of2 noNG mixed (l:=[KKnown531]) (.cons kKnown531 .nil) 3000 (by kernel_rfl)
def KKnown533:CF:=⟨18,[lstV ⟨[vI 0,vI 100000,vI 300,vI 300,vI 0,vI 0]⟩ 0 1 6,.agg ⟨[vI 0,vI 100000]⟩],.tuple ⟨[.agg ⟨[vI 0,vI 300,vI 0,vI 0]⟩,vI 0]⟩⟩
theorem kKnown533:KKnown533.Ok Try.prog:=CF.of2 noNG mixed (l:=[KKnown8,KKnown532,KKnown7]) (.cons kKnown8 (.cons kKnown532 (.cons kKnown7 .nil))) 3000 (by kernel_rfl)
def KKnown534:CF:=⟨26,[vJ 197,vJ 197],.agg ⟨[vJ 197,vJ 197]⟩⟩
theorem kKnown534:KKnown534.Ok Try.prog:=CF.of2 noNG mixed (l:=[]) .nil 3000 (by kernel_rfl)
def KKnown535:CF:=⟨26,[vI 0,vI 300],.agg ⟨[vI 0,vI 300]⟩⟩
theorem kKnown535:KKnown535.Ok Try.prog:=CF.of2 noNG mixed (l:=[]) .nil 3000 (by kernel_rfl)
def KKnown536:CF:=⟨104,[.agg wKnown3,.agg ⟨[vI 0,vI 0,vI 0,vI 0,vI 0,vI 0,vI 0,vI 0,vI 0,vI 0,vI 0,vI 0]⟩,vI 0,vI 3000,.func (.func 70) ⟨[lstV wKnown0 0 1 13]⟩ ⟨[]⟩],.func (.func 118) ⟨[]⟩ wKnown45⟩
theorem kKnown536:KKnown536.Ok Try.prog:=CF.of2 noNG mixed (l:=[]) .nil 3000 (by kernel_rfl)
def KKnown537:CF:=⟨72,[.agg wKnown3,vI 3000],.func (.func 118) ⟨[]⟩ wKnown45⟩
theorem kKnown537:KKnown537.Ok Try.prog:=CF.of2 noNG mixed (l:=[KKnown536]) (.cons kKnown536 .nil) 3000 (by kernel_rfl)
def KKnown538:CF:=⟨86,[.agg ⟨[vJ 50,vI 51,vI 0,vI 0,vI 16602,vI 16602]⟩,vI 2000000000],vT⟩
theorem kKnown538:KKnown538.Ok Try.prog:=CF.of2 noNG mixed (l:=[]) .nil 3000 (by kernel_rfl)
def KKnown539:CF:=⟨86,[.agg ⟨[vJ 1,vI 2,vI 0,vI 0,vJ 547,vJ 547]⟩,vI 1000000],vT⟩
theorem kKnown539:KKnown539.Ok Try.prog:=CF.of2 noNG mixed (l:=[]) .nil 3000 (by kernel_rfl)
def KKnown540:CF:=⟨68,[.agg wKnown34],vF⟩
theorem kKnown540:KKnown540.Ok Try.prog:=CF.of2 noNG mixed (l:=[KKnown538,KKnown539]) (.cons kKnown538 (.cons kKnown539 .nil)) 3000 (by kernel_rfl)
def KKnown541:CF:=⟨70,[lstV wKnown0 0 1 13,vI 26],.agg ⟨[vI 0,vI 0,vI 0,vI 10,vI 10,vI 0,vI 0,vI 0,vI 0,vI 0,vI 0,vI 0,vI 0]⟩⟩
theorem kKnown541:KKnown541.Ok Try.prog:=CF.of2 noNG mixed (l:=[]) .nil 3000 (by kernel_rfl)
def KKnown542:CF:=⟨55,[lstV wKnown2 0 2 7,.agg ⟨[vI 16602,vI 16602]⟩,.func (.func 57) ⟨[]⟩ ⟨[]⟩],.agg ⟨[vI 300,vI 300,vI 0,vI 0,vI 0,vI 0]⟩⟩
theorem kKnown542:KKnown542.Ok Try.prog:=CF.of2 noNG mixed (l:=[]) .nil 3000 (by kernel_rfl)
def KKnown543:CF:=⟨91,[.agg ⟨[vJ 1,vI 2,vI 0,vI 0,vJ 547,vJ 547]⟩,.func (.func 98) ⟨[]⟩ ⟨[]⟩,.agg ⟨[vI 300,vI 300,vI 0,vI 0,vI 0,vI 0]⟩],.agg ⟨[vJ 301,vJ 297,vI 0,vI 0,vJ 547,vJ 547]⟩⟩
theorem kKnown543:KKnown543.Ok Try.prog:=CF.of2 noNG mixed (l:=[]) .nil 3000 (by kernel_rfl)
def KKnown544:CF:=⟨125,[.agg ⟨[vI 389108,vI 391508]⟩],.agg ⟨[vI 623,vI 626]⟩⟩
theorem kKnown544:KKnown544.Ok Try.prog:=CF.of2 noNG mixed (l:=[]) .nil 3000 (by kernel_rfl)
def KKnown545:CF:=⟨116,[.agg ⟨[vJ 301,vJ 297,vI 0,vI 0,vJ 547,vJ 547]⟩],.agg ⟨[vI 623,vI 626]⟩⟩
theorem kKnown545:KKnown545.Ok Try.prog:=CF.of2 noNG mixed (l:=[KKnown544]) (.cons kKnown544 .nil) 3000 (by kernel_rfl)
def KKnown546:CF:=⟨91,[.agg ⟨[vJ 301,vJ 297,vI 0,vI 0,vJ 547,vJ 547]⟩,.func (.func 111) ⟨[]⟩ ⟨[]⟩,.agg ⟨[vI 0,vI 0,vI 0,vI 0,vI 0,vI 0]⟩],.agg ⟨[vI 0,vI 0,vI 0,vI 0,vI 0,vI 0]⟩⟩
theorem kKnown546:KKnown546.Ok Try.prog:=CF.of2 noNG mixed (l:=[]) .nil 3000 (by kernel_rfl)
def KKnown547:CF:=⟨112,[.agg ⟨[vJ 301,vJ 297,vI 0,vI 0,vJ 547,vJ 547]⟩,.func (.func 111) ⟨[]⟩ ⟨[]⟩,.agg ⟨[vI 0,vI 0]⟩],.agg ⟨[vI 0,vI 0,vI 0,vI 0,vI 0,vI 0]⟩⟩
theorem kKnown547:KKnown547.Ok Try.prog:=CF.of2 noNG mixed (l:=[KKnown546]) (.cons kKnown546 .nil) 3000 (by kernel_rfl)
def KKnown548:CF:=⟨99,[.agg wKnown5,.agg ⟨[vI 0,vI 0,vI 0,vI 10,vI 10,vI 0,vI 0,vI 0,vI 0,vI 0,vI 0,vI 0,vI 0]⟩,.agg wKnown34],.agg ⟨[vI 0,vI 0,vI 0,vI 0,vI 0,vI 0]⟩⟩
theorem kKnown548:KKnown548.Ok Try.prog:=CF.of2 noNG mixed (l:=[KKnown545,KKnown547,KKnown27,KKnown542,KKnown543]) (.cons kKnown545 (.cons kKnown547 (.cons kKnown27 (.cons kKnown542 (.cons kKnown543 .nil))))) 3000 (by kernel_rfl)
def KKnown549:CF:=⟨69,[.agg wKnown5,.agg ⟨[vI 0,vI 0,vI 0,vI 10,vI 10,vI 0,vI 0,vI 0,vI 0,vI 0,vI 0,vI 0,vI 0]⟩,.agg wKnown34],.agg ⟨[vI 0,vI 0,vI 0,vI 0,vJ 97,vJ 97]⟩⟩
theorem kKnown549:KKnown549.Ok Try.prog:=CF.of2 noNG mixed (l:=[KKnown40,KKnown41,KKnown548,KKnown77]) (.cons kKnown40 (.cons kKnown41 (.cons kKnown548 (.cons kKnown77 .nil)))) 3000 (by kernel_rfl)
def KKnown550:CF:=⟨91,[.agg ⟨[vJ 1,vI 2,vI 0,vI 0,vJ 547,vJ 547]⟩,.func (.func 105) ⟨[]⟩ ⟨[]⟩,.agg ⟨[vI 0,vI 0,vI 0,vI 0,vJ 97,vJ 97]⟩],.agg ⟨[vJ 1,vI 2,vI 0,vI 0,vJ 645,vJ 645]⟩⟩
theorem kKnown550:KKnown550.Ok Try.prog:=CF.of2 noNG mixed (l:=[]) .nil 3000 (by kernel_rfl)
def KKnown551:CF:=⟨91,[.agg ⟨[vJ 50,vI 51,vI 0,vI 0,vI 16602,vI 16602]⟩,.func (.func 105) ⟨[]⟩ ⟨[]⟩,.agg ⟨[vJ 1,vI 2,vI 0,vI 0,vJ 645,vJ 645]⟩],.agg ⟨[vJ 52,vI 53,vI 0,vI 0,vI 15956,vI 15956]⟩⟩
theorem kKnown551:KKnown551.Ok Try.prog:=CF.of2 noNG mixed (l:=[]) .nil 3000 (by kernel_rfl)
def KKnown552:CF:=⟨119,[.agg wKnown34,.agg ⟨[vI 0,vI 0,vI 0,vI 0,vJ 97,vJ 97]⟩],.agg wKnown46⟩
theorem kKnown552:KKnown552.Ok Try.prog:=CF.of2 noNG mixed (l:=[KKnown550,KKnown551]) (.cons kKnown550 (.cons kKnown551 .nil)) 3000 (by kernel_rfl)
def KKnown553:CF:=⟨86,[.agg ⟨[vJ 52,vI 53,vI 0,vI 0,vI 15956,vI 15956]⟩,vI 2000000000],vT⟩
theorem kKnown553:KKnown553.Ok Try.prog:=CF.of2 noNG mixed (l:=[]) .nil 3000 (by kernel_rfl)
def KKnown554:CF:=⟨86,[.agg ⟨[vJ 1,vI 2,vI 0,vI 0,vJ 645,vJ 645]⟩,vI 1000000],vT⟩
theorem kKnown554:KKnown554.Ok Try.prog:=CF.of2 noNG mixed (l:=[]) .nil 3000 (by kernel_rfl)
def KKnown555:CF:=⟨68,[.agg wKnown46],vF⟩
theorem kKnown555:KKnown555.Ok Try.prog:=CF.of2 noNG mixed (l:=[KKnown553,KKnown554]) (.cons kKnown553 (.cons kKnown554 .nil)) 3000 (by kernel_rfl)
def KKnown556:CF:=⟨70,[lstV wKnown0 0 1 13,vI 27],.agg ⟨[vI 0,vI 0,vI 0,vI 10,vI 10,vI 0,vI 0,vI 0,vI 0,vI 0,vI 0,vI 0,vI 0]⟩⟩
theorem kKnown556:KKnown556.Ok Try.prog:=CF.of2 noNG mixed (l:=[]) .nil 3000 (by kernel_rfl)
def KKnown557:CF:=⟨55,[lstV wKnown2 0 2 7,.agg ⟨[vI 15956,vI 15956]⟩,.func (.func 57) ⟨[]⟩ ⟨[]⟩],.agg ⟨[vI 300,vI 300,vI 0,vI 0,vI 0,vI 0]⟩⟩
theorem kKnown557:KKnown557.Ok Try.prog:=CF.of2 noNG mixed (l:=[]) .nil 3000 (by kernel_rfl)
def KKnown558:CF:=⟨91,[.agg ⟨[vJ 1,vI 2,vI 0,vI 0,vJ 645,vJ 645]⟩,.func (.func 98) ⟨[]⟩ ⟨[]⟩,.agg ⟨[vI 300,vI 300,vI 0,vI 0,vI 0,vI 0]⟩],.agg ⟨[vJ 301,vJ 297,vI 0,vI 0,vJ 645,vJ 645]⟩⟩
theorem kKnown558:KKnown558.Ok Try.prog:=CF.of2 noNG mixed (l:=[]) .nil 3000 (by kernel_rfl)
def KKnown559:CF:=⟨125,[.agg ⟨[vI 506120,vI 508520]⟩],.agg ⟨[vI 711,vI 714]⟩⟩
theorem kKnown559:KKnown559.Ok Try.prog:=CF.of2 noNG mixed (l:=[]) .nil 3000 (by kernel_rfl)
def KKnown560:CF:=⟨116,[.agg ⟨[vJ 301,vJ 297,vI 0,vI 0,vJ 645,vJ 645]⟩],.agg ⟨[vI 711,vI 714]⟩⟩
theorem kKnown560:KKnown560.Ok Try.prog:=CF.of2 noNG mixed (l:=[KKnown559]) (.cons kKnown559 .nil) 3000 (by kernel_rfl)
def KKnown561:CF:=⟨91,[.agg ⟨[vJ 301,vJ 297,vI 0,vI 0,vJ 645,vJ 645]⟩,.func (.func 111) ⟨[]⟩ ⟨[]⟩,.agg ⟨[vI 0,vI 0,vI 0,vI 0,vI 0,vI 0]⟩],.agg ⟨[vI 0,vI 0,vI 0,vI 0,vI 0,vI 0]⟩⟩
theorem kKnown561:KKnown561.Ok Try.prog:=CF.of2 noNG mixed (l:=[]) .nil 3000 (by kernel_rfl)
def KKnown562:CF:=⟨112,[.agg ⟨[vJ 301,vJ 297,vI 0,vI 0,vJ 645,vJ 645]⟩,.func (.func 111) ⟨[]⟩ ⟨[]⟩,.agg ⟨[vI 0,vI 0]⟩],.agg ⟨[vI 0,vI 0,vI 0,vI 0,vI 0,vI 0]⟩⟩
theorem kKnown562:KKnown562.Ok Try.prog:=CF.of2 noNG mixed (l:=[KKnown561]) (.cons kKnown561 .nil) 3000 (by kernel_rfl)
def KKnown563:CF:=⟨99,[.agg wKnown5,.agg ⟨[vI 0,vI 0,vI 0,vI 10,vI 10,vI 0,vI 0,vI 0,vI 0,vI 0,vI 0,vI 0,vI 0]⟩,.agg wKnown46],.agg ⟨[vI 0,vI 0,vI 0,vI 0,vI 0,vI 0]⟩⟩
theorem kKnown563:KKnown563.Ok Try.prog:=CF.of2 noNG mixed (l:=[KKnown557,KKnown558,KKnown560,KKnown562,KKnown27]) (.cons kKnown557 (.cons kKnown558 (.cons kKnown560 (.cons kKnown562 (.cons kKnown27 .nil))))) 3000 (by kernel_rfl)
def KKnown564:CF:=⟨69,[.agg wKnown5,.agg ⟨[vI 0,vI 0,vI 0,vI 10,vI 10,vI 0,vI 0,vI 0,vI 0,vI 0,vI 0,vI 0,vI 0]⟩,.agg wKnown46],.agg ⟨[vI 0,vI 0,vI 0,vI 0,vJ 97,vJ 97]⟩⟩
theorem kKnown564:KKnown564.Ok Try.prog:=CF.of2 noNG mixed (l:=[KKnown40,KKnown41,KKnown563,KKnown77]) (.cons kKnown40 (.cons kKnown41 (.cons kKnown563 (.cons kKnown77 .nil)))) 3000 (by kernel_rfl)
def KKnown565:CF:=⟨91,[.agg ⟨[vJ 1,vI 2,vI 0,vI 0,vJ 645,vJ 645]⟩,.func (.func 105) ⟨[]⟩ ⟨[]⟩,.agg ⟨[vI 0,vI 0,vI 0,vI 0,vJ 97,vJ 97]⟩],.agg ⟨[vJ 1,vI 2,vI 0,vI 0,vJ 743,vJ 743]⟩⟩
theorem kKnown565:KKnown565.Ok Try.prog:=CF.of2 noNG mixed (l:=[]) .nil 3000 (by kernel_rfl)
def KKnown566:CF:=⟨91,[.agg ⟨[vJ 52,vI 53,vI 0,vI 0,vI 15956,vI 15956]⟩,.func (.func 105) ⟨[]⟩ ⟨[]⟩,.agg ⟨[vJ 1,vI 2,vI 0,vI 0,vJ 743,vJ 743]⟩],.agg ⟨[vJ 54,vI 55,vI 0,vI 0,vI 15212,vI 15212]⟩⟩
theorem kKnown566:KKnown566.Ok Try.prog:=CF.of2 noNG mixed (l:=[]) .nil 3000 (by kernel_rfl)
def KKnown567:CF:=⟨119,[.agg wKnown46,.agg ⟨[vI 0,vI 0,vI 0,vI 0,vJ 97,vJ 97]⟩],.agg wKnown47⟩
theorem kKnown567:KKnown567.Ok Try.prog:=CF.of2 noNG mixed (l:=[KKnown565,KKnown566]) (.cons kKnown565 (.cons kKnown566 .nil)) 3000 (by kernel_rfl)
def KKnown568:CF:=⟨86,[.agg ⟨[vJ 54,vI 55,vI 0,vI 0,vI 15212,vI 15212]⟩,vI 2000000000],vT⟩
theorem kKnown568:KKnown568.Ok Try.prog:=CF.of2 noNG mixed (l:=[]) .nil 3000 (by kernel_rfl)
def KKnown569:CF:=⟨86,[.agg ⟨[vJ 1,vI 2,vI 0,vI 0,vJ 743,vJ 743]⟩,vI 1000000],vT⟩
theorem kKnown569:KKnown569.Ok Try.prog:=CF.of2 noNG mixed (l:=[]) .nil 3000 (by kernel_rfl)
def KKnown570:CF:=⟨68,[.agg wKnown47],vF⟩
theorem kKnown570:KKnown570.Ok Try.prog:=CF.of2 noNG mixed (l:=[KKnown568,KKnown569]) (.cons kKnown568 (.cons kKnown569 .nil)) 3000 (by kernel_rfl)
def KKnown571:CF:=⟨70,[lstV wKnown0 0 1 13,vI 28],.agg ⟨[vI 0,vI 0,vI 0,vI 10,vI 10,vI 0,vI 0,vI 0,vI 0,vI 0,vI 0,vI 0,vI 0]⟩⟩
theorem kKnown571:KKnown571.Ok Try.prog:=CF.of2 noNG mixed (l:=[]) .nil 3000 (by kernel_rfl)
def KKnown572:CF:=⟨55,[lstV wKnown2 0 2 7,.agg ⟨[vI 15212,vI 15212]⟩,.func (.func 57) ⟨[]⟩ ⟨[]⟩],.agg ⟨[vI 300,vI 300,vI 0,vI 0,vI 0,vI 0]⟩⟩
theorem kKnown572:KKnown572.Ok Try.prog:=CF.of2 noNG mixed (l:=[]) .nil 3000 (by kernel_rfl)
def KKnown573:CF:=⟨91,[.agg ⟨[vJ 1,vI 2,vI 0,vI 0,vJ 743,vJ 743]⟩,.func (.func 98) ⟨[]⟩ ⟨[]⟩,.agg ⟨[vI 300,vI 300,vI 0,vI 0,vI 0,vI 0]⟩],.agg ⟨[vJ 301,vJ 297,vI 0,vI 0,vJ 743,vJ 743]⟩⟩
theorem kKnown573:KKnown573.Ok Try.prog:=CF.of2 noNG mixed (l:=[]) .nil 3000 (by kernel_rfl)
def KKnown574:CF:=⟨125,[.agg ⟨[vI 642340,vI 644740]⟩],.agg ⟨[vI 801,vI 803]⟩⟩
theorem kKnown574:KKnown574.Ok Try.prog:=CF.of2 noNG mixed (l:=[]) .nil 3000 (by kernel_rfl)
def KKnown575:CF:=⟨116,[.agg ⟨[vJ 301,vJ 297,vI 0,vI 0,vJ 743,vJ 743]⟩],.agg ⟨[vI 801,vI 803]⟩⟩
theorem kKnown575:KKnown575.Ok Try.prog:=CF.of2 noNG mixed (l:=[KKnown574]) (.cons kKnown574 .nil) 3000 (by kernel_rfl)
def KKnown576:CF:=⟨91,[.agg ⟨[vJ 301,vJ 297,vI 0,vI 0,vJ 743,vJ 743]⟩,.func (.func 111) ⟨[]⟩ ⟨[]⟩,.agg ⟨[vI 0,vI 0,vI 0,vI 0,vI 0,vI 0]⟩],.agg ⟨[vI 0,vI 0,vI 0,vI 0,vI 0,vI 0]⟩⟩
theorem kKnown576:KKnown576.Ok Try.prog:=CF.of2 noNG mixed (l:=[]) .nil 3000 (by kernel_rfl)
def KKnown577:CF:=⟨112,[.agg ⟨[vJ 301,vJ 297,vI 0,vI 0,vJ 743,vJ 743]⟩,.func (.func 111) ⟨[]⟩ ⟨[]⟩,.agg ⟨[vI 0,vI 0]⟩],.agg ⟨[vI 0,vI 0,vI 0,vI 0,vI 0,vI 0]⟩⟩
theorem kKnown577:KKnown577.Ok Try.prog:=CF.of2 noNG mixed (l:=[KKnown576]) (.cons kKnown576 .nil) 3000 (by kernel_rfl)
def KKnown578:CF:=⟨99,[.agg wKnown5,.agg ⟨[vI 0,vI 0,vI 0,vI 10,vI 10,vI 0,vI 0,vI 0,vI 0,vI 0,vI 0,vI 0,vI 0]⟩,.agg wKnown47],.agg ⟨[vI 0,vI 0,vI 0,vI 0,vI 0,vI 0]⟩⟩
theorem kKnown578:KKnown578.Ok Try.prog:=CF.of2 noNG mixed (l:=[KKnown577,KKnown27,KKnown572,KKnown573,KKnown575]) (.cons kKnown577 (.cons kKnown27 (.cons kKnown572 (.cons kKnown573 (.cons kKnown575 .nil))))) 3000 (by kernel_rfl)
def KKnown579:CF:=⟨69,[.agg wKnown5,.agg ⟨[vI 0,vI 0,vI 0,vI 10,vI 10,vI 0,vI 0,vI 0,vI 0,vI 0,vI 0,vI 0,vI 0]⟩,.agg wKnown47],.agg ⟨[vI 0,vI 0,vI 0,vI 0,vJ 97,vJ 97]⟩⟩
theorem kKnown579:KKnown579.Ok Try.prog:=CF.of2 noNG mixed (l:=[KKnown40,KKnown41,KKnown578,KKnown77]) (.cons kKnown40 (.cons kKnown41 (.cons kKnown578 (.cons kKnown77 .nil)))) 3000 (by kernel_rfl)
def KKnown580:CF:=⟨91,[.agg ⟨[vJ 1,vI 2,vI 0,vI 0,vJ 743,vJ 743]⟩,.func (.func 105) ⟨[]⟩ ⟨[]⟩,.agg ⟨[vI 0,vI 0,vI 0,vI 0,vJ 97,vJ 97]⟩],.agg ⟨[vJ 1,vI 2,vI 0,vI 0,vJ 841,vJ 841]⟩⟩
theorem kKnown580:KKnown580.Ok Try.prog:=CF.of2 noNG mixed (l:=[]) .nil 3000 (by kernel_rfl)
def KKnown581:CF:=⟨91,[.agg ⟨[vJ 54,vI 55,vI 0,vI 0,vI 15212,vI 15212]⟩,.func (.func 105) ⟨[]⟩ ⟨[]⟩,.agg ⟨[vJ 1,vI 2,vI 0,vI 0,vJ 841,vJ 841]⟩],.agg ⟨[vJ 56,vI 57,vI 0,vI 0,vI 14370,vI 14370]⟩⟩
theorem kKnown581:KKnown581.Ok Try.prog:=CF.of2 noNG mixed (l:=[]) .nil 3000 (by kernel_rfl)
def KKnown582:CF:=⟨119,[.agg wKnown47,.agg ⟨[vI 0,vI 0,vI 0,vI 0,vJ 97,vJ 97]⟩],.agg wKnown48⟩
theorem kKnown582:KKnown582.Ok Try.prog:=CF.of2 noNG mixed (l:=[KKnown580,KKnown581]) (.cons kKnown580 (.cons kKnown581 .nil)) 3000 (by kernel_rfl)
def KKnown583:CF:=⟨86,[.agg ⟨[vJ 56,vI 57,vI 0,vI 0,vI 14370,vI 14370]⟩,vI 2000000000],vT⟩
theorem kKnown583:KKnown583.Ok Try.prog:=CF.of2 noNG mixed (l:=[]) .nil 3000 (by kernel_rfl)
def KKnown584:CF:=⟨86,[.agg ⟨[vJ 1,vI 2,vI 0,vI 0,vJ 841,vJ 841]⟩,vI 1000000],vT⟩
theorem kKnown584:KKnown584.Ok Try.prog:=CF.of2 noNG mixed (l:=[]) .nil 3000 (by kernel_rfl)
def KKnown585:CF:=⟨68,[.agg wKnown48],vF⟩
theorem kKnown585:KKnown585.Ok Try.prog:=CF.of2 noNG mixed (l:=[KKnown584,KKnown583]) (.cons kKnown584 (.cons kKnown583 .nil)) 3000 (by kernel_rfl)
def KKnown586:CF:=⟨70,[lstV wKnown0 0 1 13,vI 29],.agg ⟨[vI 0,vI 0,vI 0,vI 10,vI 10,vI 0,vI 0,vI 0,vI 0,vI 0,vI 0,vI 0,vI 0]⟩⟩
theorem kKnown586:KKnown586.Ok Try.prog:=CF.of2 noNG mixed (l:=[]) .nil 3000 (by kernel_rfl)
def KKnown587:CF:=⟨55,[lstV wKnown2 0 2 7,.agg ⟨[vI 14370,vI 14370]⟩,.func (.func 57) ⟨[]⟩ ⟨[]⟩],.agg ⟨[vI 300,vI 300,vI 0,vI 0,vI 0,vI 0]⟩⟩
theorem kKnown587:KKnown587.Ok Try.prog:=CF.of2 noNG mixed (l:=[]) .nil 3000 (by kernel_rfl)
def KKnown588:CF:=⟨91,[.agg ⟨[vJ 1,vI 2,vI 0,vI 0,vJ 841,vJ 841]⟩,.func (.func 98) ⟨[]⟩ ⟨[]⟩,.agg ⟨[vI 300,vI 300,vI 0,vI 0,vI 0,vI 0]⟩],.agg ⟨[vJ 301,vJ 297,vI 0,vI 0,vJ 841,vJ 841]⟩⟩
theorem kKnown588:KKnown588.Ok Try.prog:=CF.of2 noNG mixed (l:=[]) .nil 3000 (by kernel_rfl)
def KKnown589:CF:=⟨125,[.agg ⟨[vI 797768,vI 800168]⟩],.agg ⟨[vI 893,vI 895]⟩⟩
theorem kKnown589:KKnown589.Ok Try.prog:=CF.of2 noNG mixed (l:=[]) .nil 3000 (by kernel_rfl)
def KKnown590:CF:=⟨116,[.agg ⟨[vJ 301,vJ 297,vI 0,vI 0,vJ 841,vJ 841]⟩],.agg ⟨[vI 893,vI 895]⟩⟩
theorem kKnown590:KKnown590.Ok Try.prog:=CF.of2 noNG mixed (l:=[KKnown589]) (.cons kKnown589 .nil) 3000 (by kernel_rfl)
def KKnown591:CF:=⟨91,[.agg ⟨[vJ 301,vJ 297,vI 0,vI 0,vJ 841,vJ 841]⟩,.func (.func 111) ⟨[]⟩ ⟨[]⟩,.agg ⟨[vI 0,vI 0,vI 0,vI 0,vI 0,vI 0]⟩],.agg ⟨[vI 0,vI 0,vI 0,vI 0,vI 0,vI 0]⟩⟩
theorem kKnown591:KKnown591.Ok Try.prog:=CF.of2 noNG mixed (l:=[]) .nil 3000 (by kernel_rfl)
def KKnown592:CF:=⟨112,[.agg ⟨[vJ 301,vJ 297,vI 0,vI 0,vJ 841,vJ 841]⟩,.func (.func 111) ⟨[]⟩ ⟨[]⟩,.agg ⟨[vI 0,vI 0]⟩],.agg ⟨[vI 0,vI 0,vI 0,vI 0,vI 0,vI 0]⟩⟩
theorem kKnown592:KKnown592.Ok Try.prog:=CF.of2 noNG mixed (l:=[KKnown591]) (.cons kKnown591 .nil) 3000 (by kernel_rfl)
def KKnown593:CF:=⟨99,[.agg wKnown5,.agg ⟨[vI 0,vI 0,vI 0,vI 10,vI 10,vI 0,vI 0,vI 0,vI 0,vI 0,vI 0,vI 0,vI 0]⟩,.agg wKnown48],.agg ⟨[vI 0,vI 0,vI 0,vI 0,vI 0,vI 0]⟩⟩
theorem kKnown593:KKnown593.Ok Try.prog:=CF.of2 noNG mixed (l:=[KKnown587,KKnown588,KKnown590,KKnown592,KKnown27]) (.cons kKnown587 (.cons kKnown588 (.cons kKnown590 (.cons kKnown592 (.cons kKnown27 .nil))))) 3000 (by kernel_rfl)
def KKnown594:CF:=⟨69,[.agg wKnown5,.agg ⟨[vI 0,vI 0,vI 0,vI 10,vI 10,vI 0,vI 0,vI 0,vI 0,vI 0,vI 0,vI 0,vI 0]⟩,.agg wKnown48],.agg ⟨[vI 0,vI 0,vI 0,vI 0,vJ 97,vJ 97]⟩⟩
theorem kKnown594:KKnown594.Ok Try.prog:=CF.of2 noNG mixed (l:=[KKnown40,KKnown593,KKnown77,KKnown41]) (.cons kKnown40 (.cons kKnown593 (.cons kKnown77 (.cons kKnown41 .nil)))) 3000 (by kernel_rfl)
def KKnown595:CF:=⟨91,[.agg ⟨[vJ 1,vI 2,vI 0,vI 0,vJ 841,vJ 841]⟩,.func (.func 105) ⟨[]⟩ ⟨[]⟩,.agg ⟨[vI 0,vI 0,vI 0,vI 0,vJ 97,vJ 97]⟩],.agg ⟨[vJ 1,vI 2,vI 0,vI 0,vJ 939,vJ 939]⟩⟩
theorem kKnown595:KKnown595.Ok Try.prog:=CF.of2 noNG mixed (l:=[]) .nil 3000 (by kernel_rfl)
def KKnown596:CF:=⟨91,[.agg ⟨[vJ 56,vI 57,vI 0,vI 0,vI 14370,vI 14370]⟩,.func (.func 105) ⟨[]⟩ ⟨[]⟩,.agg ⟨[vJ 1,vI 2,vI 0,vI 0,vJ 939,vJ 939]⟩],.agg ⟨[vJ 58,vI 59,vI 0,vI 0,vI 13430,vI 13430]⟩⟩
theorem kKnown596:KKnown596.Ok Try.prog:=CF.of2 noNG mixed (l:=[]) .nil 3000 (by kernel_rfl)
def KKnown597:CF:=⟨119,[.agg wKnown48,.agg ⟨[vI 0,vI 0,vI 0,vI 0,vJ 97,vJ 97]⟩],.agg wKnown49⟩
theorem kKnown597:KKnown597.Ok Try.prog:=CF.of2 noNG mixed (l:=[KKnown595,KKnown596]) (.cons kKnown595 (.cons kKnown596 .nil)) 3000 (by kernel_rfl)
def KKnown598:CF:=⟨86,[.agg ⟨[vJ 58,vI 59,vI 0,vI 0,vI 13430,vI 13430]⟩,vI 2000000000],vT⟩
theorem kKnown598:KKnown598.Ok Try.prog:=CF.of2 noNG mixed (l:=[]) .nil 3000 (by kernel_rfl)
def KKnown599:CF:=⟨86,[.agg ⟨[vJ 1,vI 2,vI 0,vI 0,vJ 939,vJ 939]⟩,vI 1000000],vT⟩
theorem kKnown599:KKnown599.Ok Try.prog:=CF.of2 noNG mixed (l:=[]) .nil 3000 (by kernel_rfl)
def KKnown600:CF:=⟨68,[.agg wKnown49],vF⟩
theorem kKnown600:KKnown600.Ok Try.prog:=CF.of2 noNG mixed (l:=[KKnown598,KKnown599]) (.cons kKnown598 (.cons kKnown599 .nil)) 3000 (by kernel_rfl)
def KKnown601:CF:=⟨70,[lstV wKnown0 0 1 13,vI 30],.agg ⟨[vI 0,vI 0,vI 0,vI 10,vI 10,vI 0,vI 0,vI 0,vI 0,vI 0,vI 0,vI 0,vI 0]⟩⟩
theorem kKnown601:KKnown601.Ok Try.prog:=CF.of2 noNG mixed (l:=[]) .nil 3000 (by kernel_rfl)
def KKnown602:CF:=⟨55,[lstV wKnown2 0 2 7,.agg ⟨[vI 13430,vI 13430]⟩,.func (.func 57) ⟨[]⟩ ⟨[]⟩],.agg ⟨[vI 300,vI 300,vI 0,vI 0,vI 0,vI 0]⟩⟩
theorem kKnown602:KKnown602.Ok Try.prog:=CF.of2 noNG mixed (l:=[]) .nil 3000 (by kernel_rfl)
def KKnown603:CF:=⟨91,[.agg ⟨[vJ 1,vI 2,vI 0,vI 0,vJ 939,vJ 939]⟩,.func (.func 98) ⟨[]⟩ ⟨[]⟩,.agg ⟨[vI 300,vI 300,vI 0,vI 0,vI 0,vI 0]⟩],.agg ⟨[vJ 301,vJ 297,vI 0,vI 0,vJ 939,vJ 939]⟩⟩
theorem kKnown603:KKnown603.Ok Try.prog:=CF.of2 noNG mixed (l:=[]) .nil 3000 (by kernel_rfl)
def KKnown604:CF:=⟨125,[.agg ⟨[vI 972404,vI 974804]⟩],.agg ⟨[vI 986,vI 988]⟩⟩
theorem kKnown604:KKnown604.Ok Try.prog:=CF.of2 noNG mixed (l:=[]) .nil 3000 (by kernel_rfl)
def KKnown605:CF:=⟨116,[.agg ⟨[vJ 301,vJ 297,vI 0,vI 0,vJ 939,vJ 939]⟩],.agg ⟨[vI 986,vI 988]⟩⟩
theorem kKnown605:KKnown605.Ok Try.prog:=CF.of2 noNG mixed (l:=[KKnown604]) (.cons kKnown604 .nil) 3000 (by kernel_rfl)
def KKnown606:CF:=⟨91,[.agg ⟨[vJ 301,vJ 297,vI 0,vI 0,vJ 939,vJ 939]⟩,.func (.func 111) ⟨[]⟩ ⟨[]⟩,.agg ⟨[vI 0,vI 0,vI 0,vI 0,vI 0,vI 0]⟩],.agg ⟨[vI 0,vI 0,vI 0,vI 0,vI 0,vI 0]⟩⟩
theorem kKnown606:KKnown606.Ok Try.prog:=CF.of2 noNG mixed (l:=[]) .nil 3000 (by kernel_rfl)
def KKnown607:CF:=⟨112,[.agg ⟨[vJ 301,vJ 297,vI 0,vI 0,vJ 939,vJ 939]⟩,.func (.func 111) ⟨[]⟩ ⟨[]⟩,.agg ⟨[vI 0,vI 0]⟩],.agg ⟨[vI 0,vI 0,vI 0,vI 0,vI 0,vI 0]⟩⟩
theorem kKnown607:KKnown607.Ok Try.prog:=CF.of2 noNG mixed (l:=[KKnown606]) (.cons kKnown606 .nil) 3000 (by kernel_rfl)
def KKnown608:CF:=⟨99,[.agg wKnown5,.agg ⟨[vI 0,vI 0,vI 0,vI 10,vI 10,vI 0,vI 0,vI 0,vI 0,vI 0,vI 0,vI 0,vI 0]⟩,.agg wKnown49],.agg ⟨[vI 0,vI 0,vI 0,vI 0,vI 0,vI 0]⟩⟩
theorem kKnown608:KKnown608.Ok Try.prog:=CF.of2 noNG mixed (l:=[KKnown603,KKnown602,KKnown27,KKnown605,KKnown607]) (.cons kKnown603 (.cons kKnown602 (.cons kKnown27 (.cons kKnown605 (.cons kKnown607 .nil))))) 3000 (by kernel_rfl)
def KKnown609:CF:=⟨69,[.agg wKnown5,.agg ⟨[vI 0,vI 0,vI 0,vI 10,vI 10,vI 0,vI 0,vI 0,vI 0,vI 0,vI 0,vI 0,vI 0]⟩,.agg wKnown49],.agg ⟨[vI 0,vI 0,vI 0,vI 0,vJ 97,vJ 97]⟩⟩
theorem kKnown609:KKnown609.Ok Try.prog:=CF.of2 noNG mixed (l:=[KKnown608,KKnown41,KKnown40,KKnown77]) (.cons kKnown608 (.cons kKnown41 (.cons kKnown40 (.cons kKnown77 .nil)))) 3000 (by kernel_rfl)
def KKnown610:CF:=⟨91,[.agg ⟨[vJ 1,vI 2,vI 0,vI 0,vJ 939,vJ 939]⟩,.func (.func 105) ⟨[]⟩ ⟨[]⟩,.agg ⟨[vI 0,vI 0,vI 0,vI 0,vJ 97,vJ 97]⟩],.agg ⟨[vJ 1,vI 2,vI 0,vI 0,vJ 1037,vJ 1037]⟩⟩
theorem kKnown610:KKnown610.Ok Try.prog:=CF.of2 noNG mixed (l:=[]) .nil 3000 (by kernel_rfl)
def KKnown611:CF:=⟨91,[.agg ⟨[vJ 58,vI 59,vI 0,vI 0,vI 13430,vI 13430]⟩,.func (.func 105) ⟨[]⟩ ⟨[]⟩,.agg ⟨[vJ 1,vI 2,vI 0,vI 0,vJ 1037,vJ 1037]⟩],.agg ⟨[vJ 60,vI 61,vI 0,vI 0,vI 12392,vI 12392]⟩⟩
theorem kKnown611:KKnown611.Ok Try.prog:=CF.of2 noNG mixed (l:=[]) .nil 3000 (by kernel_rfl)
def KKnown612:CF:=⟨119,[.agg wKnown49,.agg ⟨[vI 0,vI 0,vI 0,vI 0,vJ 97,vJ 97]⟩],.agg wKnown50⟩
theorem kKnown612:KKnown612.Ok Try.prog:=CF.of2 noNG mixed (l:=[KKnown610,KKnown611]) (.cons kKnown610 (.cons kKnown611 .nil)) 3000 (by kernel_rfl)
def KKnown613:CF:=⟨86,[.agg ⟨[vJ 60,vI 61,vI 0,vI 0,vI 12392,vI 12392]⟩,vI 2000000000],vT⟩
theorem kKnown613:KKnown613.Ok Try.prog:=CF.of2 noNG mixed (l:=[]) .nil 3000 (by kernel_rfl)
def KKnown614:CF:=⟨86,[.agg ⟨[vJ 1,vI 2,vI 0,vI 0,vJ 1037,vJ 1037]⟩,vI 1000000],vT⟩
theorem kKnown614:KKnown614.Ok Try.prog:=CF.of2 noNG mixed (l:=[]) .nil 3000 (by kernel_rfl)
def KKnown615:CF:=⟨68,[.agg wKnown50],vF⟩
theorem kKnown615:KKnown615.Ok Try.prog:=CF.of2 noNG mixed (l:=[KKnown613,KKnown614]) (.cons kKnown613 (.cons kKnown614 .nil)) 3000 (by kernel_rfl)
def KKnown616:CF:=⟨70,[lstV wKnown0 0 1 13,vI 31],.agg ⟨[vI 0,vI 0,vI 0,vI 10,vI 10,vI 0,vI 0,vI 0,vI 0,vI 0,vI 0,vI 0,vI 0]⟩⟩
theorem kKnown616:KKnown616.Ok Try.prog:=CF.of2 noNG mixed (l:=[]) .nil 3000 (by kernel_rfl)
def KKnown617:CF:=⟨55,[lstV wKnown2 0 2 7,.agg ⟨[vI 12392,vI 12392]⟩,.func (.func 57) ⟨[]⟩ ⟨[]⟩],.agg ⟨[vI 300,vI 300,vI 0,vI 0,vI 0,vI 0]⟩⟩
theorem kKnown617:KKnown617.Ok Try.prog:=CF.of2 noNG mixed (l:=[]) .nil 3000 (by kernel_rfl)
def KKnown618:CF:=⟨91,[.agg ⟨[vJ 1,vI 2,vI 0,vI 0,vJ 1037,vJ 1037]⟩,.func (.func 98) ⟨[]⟩ ⟨[]⟩,.agg ⟨[vI 300,vI 300,vI 0,vI 0,vI 0,vI 0]⟩],.agg ⟨[vJ 301,vJ 297,vI 0,vI 0,vJ 1037,vJ 1037]⟩⟩
theorem kKnown618:KKnown618.Ok Try.prog:=CF.of2 noNG mixed (l:=[]) .nil 3000 (by kernel_rfl)
def KKnown619:CF:=⟨125,[.agg ⟨[vI 1166248,vI 1168648]⟩],.agg ⟨[vI 1079,vI 1082]⟩⟩
theorem kKnown619:KKnown619.Ok Try.prog:=CF.of2 noNG mixed (l:=[]) .nil 3000 (by kernel_rfl)
def KKnown620:CF:=⟨116,[.agg ⟨[vJ 301,vJ 297,vI 0,vI 0,vJ 1037,vJ 1037]⟩],.agg ⟨[vI 1079,vI 1082]⟩⟩
theorem kKnown620:KKnown620.Ok Try.prog:=CF.of2 noNG mixed (l:=[KKnown619]) (.cons kKnown619 .nil) 3000 (by kernel_rfl)
def KKnown621:CF:=⟨91,[.agg ⟨[vJ 301,vJ 297,vI 0,vI 0,vJ 1037,vJ 1037]⟩,.func (.func 111) ⟨[]⟩ ⟨[]⟩,.agg ⟨[vI 0,vI 0,vI 0,vI 0,vI 0,vI 0]⟩],.agg ⟨[vI 0,vI 0,vI 0,vI 0,vI 0,vI 0]⟩⟩
theorem kKnown621:KKnown621.Ok Try.prog:=CF.of2 noNG mixed (l:=[]) .nil 3000 (by kernel_rfl)
def KKnown622:CF:=⟨112,[.agg ⟨[vJ 301,vJ 297,vI 0,vI 0,vJ 1037,vJ 1037]⟩,.func (.func 111) ⟨[]⟩ ⟨[]⟩,.agg ⟨[vI 0,vI 0]⟩],.agg ⟨[vI 0,vI 0,vI 0,vI 0,vI 0,vI 0]⟩⟩
theorem kKnown622:KKnown622.Ok Try.prog:=CF.of2 noNG mixed (l:=[KKnown621]) (.cons kKnown621 .nil) 3000 (by kernel_rfl)
def KKnown623:CF:=⟨99,[.agg wKnown5,.agg ⟨[vI 0,vI 0,vI 0,vI 10,vI 10,vI 0,vI 0,vI 0,vI 0,vI 0,vI 0,vI 0,vI 0]⟩,.agg wKnown50],.agg ⟨[vI 0,vI 0,vI 0,vI 0,vI 0,vI 0]⟩⟩
theorem kKnown623:KKnown623.Ok Try.prog:=CF.of2 noNG mixed (l:=[KKnown617,KKnown618,KKnown620,KKnown622,KKnown27]) (.cons kKnown617 (.cons kKnown618 (.cons kKnown620 (.cons kKnown622 (.cons kKnown27 .nil))))) 3000 (by kernel_rfl)
def KKnown624:CF:=⟨69,[.agg wKnown5,.agg ⟨[vI 0,vI 0,vI 0,vI 10,vI 10,vI 0,vI 0,vI 0,vI 0,vI 0,vI 0,vI 0,vI 0]⟩,.agg wKnown50],.agg ⟨[vI 0,vI 0,vI 0,vI 0,vJ 97,vJ 97]⟩⟩
theorem kKnown624:KKnown624.Ok Try.prog:=CF.of2 noNG mixed (l:=[KKnown40,KKnown41,KKnown77,KKnown623]) (.cons kKnown40 (.cons kKnown41 (.cons kKnown77 (.cons kKnown623 .nil)))) 3000 (by kernel_rfl)
def KKnown625:CF:=⟨91,[.agg ⟨[vJ 1,vI 2,vI 0,vI 0,vJ 1037,vJ 1037]⟩,.func (.func 105) ⟨[]⟩ ⟨[]⟩,.agg ⟨[vI 0,vI 0,vI 0,vI 0,vJ 97,vJ 97]⟩],.agg ⟨[vJ 1,vI 2,vI 0,vI 0,vJ 1135,vJ 1135]⟩⟩
theorem kKnown625:KKnown625.Ok Try.prog:=CF.of2 noNG mixed (l:=[]) .nil 3000 (by kernel_rfl)
def KKnown626:CF:=⟨91,[.agg ⟨[vJ 60,vI 61,vI 0,vI 0,vI 12392,vI 12392]⟩,.func (.func 105) ⟨[]⟩ ⟨[]⟩,.agg ⟨[vJ 1,vI 2,vI 0,vI 0,vJ 1135,vJ 1135]⟩],.agg ⟨[vJ 62,vI 63,vI 0,vI 0,vI 11256,vI 11256]⟩⟩
theorem kKnown626:KKnown626.Ok Try.prog:=CF.of2 noNG mixed (l:=[]) .nil 3000 (by kernel_rfl)
def KKnown627:CF:=⟨119,[.agg wKnown50,.agg ⟨[vI 0,vI 0,vI 0,vI 0,vJ 97,vJ 97]⟩],.agg wKnown51⟩
theorem kKnown627:KKnown627.Ok Try.prog:=CF.of2 noNG mixed (l:=[KKnown625,KKnown626]) (.cons kKnown625 (.cons kKnown626 .nil)) 3000 (by kernel_rfl)
def KKnown628:CF:=⟨86,[.agg ⟨[vJ 62,vI 63,vI 0,vI 0,vI 11256,vI 11256]⟩,vI 2000000000],vT⟩
theorem kKnown628:KKnown628.Ok Try.prog:=CF.of2 noNG mixed (l:=[]) .nil 3000 (by kernel_rfl)
def KKnown629:CF:=⟨86,[.agg ⟨[vJ 1,vI 2,vI 0,vI 0,vJ 1135,vJ 1135]⟩,vI 1000000],vT⟩
theorem kKnown629:KKnown629.Ok Try.prog:=CF.of2 noNG mixed (l:=[]) .nil 3000 (by kernel_rfl)
def KKnown630:CF:=⟨68,[.agg wKnown51],vF⟩
theorem kKnown630:KKnown630.Ok Try.prog:=CF.of2 noNG mixed (l:=[KKnown628,KKnown629]) (.cons kKnown628 (.cons kKnown629 .nil)) 3000 (by kernel_rfl)
def KKnown631:CF:=⟨70,[lstV wKnown0 0 1 13,vI 32],.agg ⟨[vI 0,vI 0,vI 0,vI 10,vI 10,vI 0,vI 0,vI 0,vI 0,vI 0,vI 0,vI 0,vI 0]⟩⟩
theorem kKnown631:KKnown631.Ok Try.prog:=CF.of2 noNG mixed (l:=[]) .nil 3000 (by kernel_rfl)
def KKnown632:CF:=⟨55,[lstV wKnown2 0 2 7,.agg ⟨[vI 11256,vI 11256]⟩,.func (.func 57) ⟨[]⟩ ⟨[]⟩],.agg ⟨[vI 300,vI 300,vI 0,vI 0,vI 0,vI 0]⟩⟩
theorem kKnown632:KKnown632.Ok Try.prog:=CF.of2 noNG mixed (l:=[]) .nil 3000 (by kernel_rfl)
def KKnown633:CF:=⟨91,[.agg ⟨[vJ 1,vI 2,vI 0,vI 0,vJ 1135,vJ 1135]⟩,.func (.func 98) ⟨[]⟩ ⟨[]⟩,.agg ⟨[vI 300,vI 300,vI 0,vI 0,vI 0,vI 0]⟩],.agg ⟨[vJ 301,vJ 297,vI 0,vI 0,vJ 1135,vJ 1135]⟩⟩
theorem kKnown633:KKnown633.Ok Try.prog:=CF.of2 noNG mixed (l:=[]) .nil 3000 (by kernel_rfl)
def KKnown634:CF:=⟨125,[.agg ⟨[vI 1379300,vI 1381700]⟩],.agg ⟨[vI 1174,vI 1176]⟩⟩
theorem kKnown634:KKnown634.Ok Try.prog:=CF.of2 noNG mixed (l:=[]) .nil 3000 (by kernel_rfl)
def KKnown635:CF:=⟨116,[.agg ⟨[vJ 301,vJ 297,vI 0,vI 0,vJ 1135,vJ 1135]⟩],.agg ⟨[vI 1174,vI 1176]⟩⟩
theorem kKnown635:KKnown635.Ok Try.prog:=CF.of2 noNG mixed (l:=[KKnown634]) (.cons kKnown634 .nil) 3000 (by kernel_rfl)
def KKnown636:CF:=⟨91,[.agg ⟨[vJ 301,vJ 297,vI 0,vI 0,vJ 1135,vJ 1135]⟩,.func (.func 111) ⟨[]⟩ ⟨[]⟩,.agg ⟨[vI 0,vI 0,vI 0,vI 0,vI 0,vI 0]⟩],.agg ⟨[vI 0,vI 0,vI 0,vI 0,vI 0,vI 0]⟩⟩
theorem kKnown636:KKnown636.Ok Try.prog:=CF.of2 noNG mixed (l:=[]) .nil 3000 (by kernel_rfl)
def KKnown637:CF:=⟨112,[.agg ⟨[vJ 301,vJ 297,vI 0,vI 0,vJ 1135,vJ 1135]⟩,.func (.func 111) ⟨[]⟩ ⟨[]⟩,.agg ⟨[vI 0,vI 0]⟩],.agg ⟨[vI 0,vI 0,vI 0,vI 0,vI 0,vI 0]⟩⟩
theorem kKnown637:KKnown637.Ok Try.prog:=CF.of2 noNG mixed (l:=[KKnown636]) (.cons kKnown636 .nil) 3000 (by kernel_rfl)
def KKnown638:CF:=⟨99,[.agg wKnown5,.agg ⟨[vI 0,vI 0,vI 0,vI 10,vI 10,vI 0,vI 0,vI 0,vI 0,vI 0,vI 0,vI 0,vI 0]⟩,.agg wKnown51],.agg ⟨[vI 0,vI 0,vI 0,vI 0,vI 0,vI 0]⟩⟩
theorem kKnown638:KKnown638.Ok Try.prog:=CF.of2 noNG mixed (l:=[KKnown27,KKnown632,KKnown633,KKnown635,KKnown637]) (.cons kKnown27 (.cons kKnown632 (.cons kKnown633 (.cons kKnown635 (.cons kKnown637 .nil))))) 3000 (by kernel_rfl)
def KKnown639:CF:=⟨69,[.agg wKnown5,.agg ⟨[vI 0,vI 0,vI 0,vI 10,vI 10,vI 0,vI 0,vI 0,vI 0,vI 0,vI 0,vI 0,vI 0]⟩,.agg wKnown51],.agg ⟨[vI 0,vI 0,vI 0,vI 0,vJ 97,vJ 97]⟩⟩
theorem kKnown639:KKnown639.Ok Try.prog:=CF.of2 noNG mixed (l:=[KKnown40,KKnown41,KKnown77,KKnown638]) (.cons kKnown40 (.cons kKnown41 (.cons kKnown77 (.cons kKnown638 .nil)))) 3000 (by kernel_rfl)
def KKnown640:CF:=⟨91,[.agg ⟨[vJ 1,vI 2,vI 0,vI 0,vJ 1135,vJ 1135]⟩,.func (.func 105) ⟨[]⟩ ⟨[]⟩,.agg ⟨[vI 0,vI 0,vI 0,vI 0,vJ 97,vJ 97]⟩],.agg ⟨[vJ 1,vI 2,vI 0,vI 0,vJ 1233,vJ 1233]⟩⟩
theorem kKnown640:KKnown640.Ok Try.prog:=CF.of2 noNG mixed (l:=[]) .nil 3000 (by kernel_rfl)
def KKnown641:CF:=⟨91,[.agg ⟨[vJ 62,vI 63,vI 0,vI 0,vI 11256,vI 11256]⟩,.func (.func 105) ⟨[]⟩ ⟨[]⟩,.agg ⟨[vJ 1,vI 2,vI 0,vI 0,vJ 1233,vJ 1233]⟩],.agg ⟨[vJ 64,vI 65,vI 0,vI 0,vI 10022,vI 10022]⟩⟩
theorem kKnown641:KKnown641.Ok Try.prog:=CF.of2 noNG mixed (l:=[]) .nil 3000 (by kernel_rfl)
def KKnown642:CF:=⟨119,[.agg wKnown51,.agg ⟨[vI 0,vI 0,vI 0,vI 0,vJ 97,vJ 97]⟩],.agg wKnown52⟩
theorem kKnown642:KKnown642.Ok Try.prog:=CF.of2 noNG mixed (l:=[KKnown640,KKnown641]) (.cons kKnown640 (.cons kKnown641 .nil)) 3000 (by kernel_rfl)
def KKnown643:CF:=⟨86,[.agg ⟨[vJ 64,vI 65,vI 0,vI 0,vI 10022,vI 10022]⟩,vI 2000000000],vT⟩
theorem kKnown643:KKnown643.Ok Try.prog:=CF.of2 noNG mixed (l:=[]) .nil 3000 (by kernel_rfl)
def KKnown644:CF:=⟨86,[.agg ⟨[vJ 1,vI 2,vI 0,vI 0,vJ 1233,vJ 1233]⟩,vI 1000000],vT⟩
theorem kKnown644:KKnown644.Ok Try.prog:=CF.of2 noNG mixed (l:=[]) .nil 3000 (by kernel_rfl)
def KKnown645:CF:=⟨68,[.agg wKnown52],vF⟩
theorem kKnown645:KKnown645.Ok Try.prog:=CF.of2 noNG mixed (l:=[KKnown643,KKnown644]) (.cons kKnown643 (.cons kKnown644 .nil)) 3000 (by kernel_rfl)
def KKnown646:CF:=⟨70,[lstV wKnown0 0 1 13,vI 33],.agg ⟨[vI 0,vI 0,vI 0,vI 10,vI 10,vI 0,vI 0,vI 0,vI 0,vI 0,vI 0,vI 0,vI 0]⟩⟩
theorem kKnown646:KKnown646.Ok Try.prog:=CF.of2 noNG mixed (l:=[]) .nil 3000 (by kernel_rfl)
def KKnown647:CF:=⟨55,[lstV wKnown2 0 2 7,.agg ⟨[vI 10022,vI 10022]⟩,.func (.func 57) ⟨[]⟩ ⟨[]⟩],.agg ⟨[vI 300,vI 300,vI 0,vI 0,vI 0,vI 0]⟩⟩
theorem kKnown647:KKnown647.Ok Try.prog:=CF.of2 noNG mixed (l:=[]) .nil 3000 (by kernel_rfl)
def KKnown648:CF:=⟨91,[.agg ⟨[vJ 1,vI 2,vI 0,vI 0,vJ 1233,vJ 1233]⟩,.func (.func 98) ⟨[]⟩ ⟨[]⟩,.agg ⟨[vI 300,vI 300,vI 0,vI 0,vI 0,vI 0]⟩],.agg ⟨[vJ 301,vJ 297,vI 0,vI 0,vJ 1233,vJ 1233]⟩⟩
theorem kKnown648:KKnown648.Ok Try.prog:=CF.of2 noNG mixed (l:=[]) .nil 3000 (by kernel_rfl)
def KKnown649:CF:=⟨125,[.agg ⟨[vI 1611560,vI 1613960]⟩],.agg ⟨[vI 1269,vI 1271]⟩⟩
theorem kKnown649:KKnown649.Ok Try.prog:=CF.of2 noNG mixed (l:=[]) .nil 3000 (by kernel_rfl)
def KKnown650:CF:=⟨116,[.agg ⟨[vJ 301,vJ 297,vI 0,vI 0,vJ 1233,vJ 1233]⟩],.agg ⟨[vI 1269,vI 1271]⟩⟩
theorem kKnown650:KKnown650.Ok Try.prog:=CF.of2 noNG mixed (l:=[KKnown649]) (.cons kKnown649 .nil) 3000 (by kernel_rfl)
def KKnown651:CF:=⟨91,[.agg ⟨[vJ 301,vJ 297,vI 0,vI 0,vJ 1233,vJ 1233]⟩,.func (.func 111) ⟨[]⟩ ⟨[]⟩,.agg ⟨[vI 0,vI 0,vI 0,vI 0,vI 0,vI 0]⟩],.agg ⟨[vI 0,vI 0,vI 0,vI 0,vI 0,vI 0]⟩⟩
theorem kKnown651:KKnown651.Ok Try.prog:=CF.of2 noNG mixed (l:=[]) .nil 3000 (by kernel_rfl)
def KKnown652:CF:=⟨112,[.agg ⟨[vJ 301,vJ 297,vI 0,vI 0,vJ 1233,vJ 1233]⟩,.func (.func 111) ⟨[]⟩ ⟨[]⟩,.agg ⟨[vI 0,vI 0]⟩],.agg ⟨[vI 0,vI 0,vI 0,vI 0,vI 0,vI 0]⟩⟩
theorem kKnown652:KKnown652.Ok Try.prog:=CF.of2 noNG mixed (l:=[KKnown651]) (.cons kKnown651 .nil) 3000 (by kernel_rfl)
def KKnown653:CF:=⟨99,[.agg wKnown5,.agg ⟨[vI 0,vI 0,vI 0,vI 10,vI 10,vI 0,vI 0,vI 0,vI 0,vI 0,vI 0,vI 0,vI 0]⟩,.agg wKnown52],.agg ⟨[vI 0,vI 0,vI 0,vI 0,vI 0,vI 0]⟩⟩
theorem kKnown653:KKnown653.Ok Try.prog:=CF.of2 noNG mixed (l:=[KKnown647,KKnown648,KKnown650,KKnown652,KKnown27]) (.cons kKnown647 (.cons kKnown648 (.cons kKnown650 (.cons kKnown652 (.cons kKnown27 .nil))))) 3000 (by kernel_rfl)
def KKnown654:CF:=⟨69,[.agg wKnown5,.agg ⟨[vI 0,vI 0,vI 0,vI 10,vI 10,vI 0,vI 0,vI 0,vI 0,vI 0,vI 0,vI 0,vI 0]⟩,.agg wKnown52],.agg ⟨[vI 0,vI 0,vI 0,vI 0,vJ 97,vJ 97]⟩⟩
theorem kKnown654:KKnown654.Ok Try.prog:=CF.of2 noNG mixed (l:=[KKnown40,KKnown41,KKnown77,KKnown653]) (.cons kKnown40 (.cons kKnown41 (.cons kKnown77 (.cons kKnown653 .nil)))) 3000 (by kernel_rfl)
def KKnown655:CF:=⟨91,[.agg ⟨[vJ 1,vI 2,vI 0,vI 0,vJ 1233,vJ 1233]⟩,.func (.func 105) ⟨[]⟩ ⟨[]⟩,.agg ⟨[vI 0,vI 0,vI 0,vI 0,vJ 97,vJ 97]⟩],.agg ⟨[vJ 1,vI 2,vI 0,vI 0,vJ 1331,vJ 1331]⟩⟩
theorem kKnown655:KKnown655.Ok Try.prog:=CF.of2 noNG mixed (l:=[]) .nil 3000 (by kernel_rfl)
def KKnown656:CF:=⟨91,[.agg ⟨[vJ 64,vI 65,vI 0,vI 0,vI 10022,vI 10022]⟩,.func (.func 105) ⟨[]⟩ ⟨[]⟩,.agg ⟨[vJ 1,vI 2,vI 0,vI 0,vJ 1331,vJ 1331]⟩],.agg ⟨[vJ 66,vI 67,vI 0,vI 0,vI 8690,vI 8690]⟩⟩
theorem kKnown656:KKnown656.Ok Try.prog:=CF.of2 noNG mixed (l:=[]) .nil 3000 (by kernel_rfl)
def KKnown657:CF:=⟨119,[.agg wKnown52,.agg ⟨[vI 0,vI 0,vI 0,vI 0,vJ 97,vJ 97]⟩],.agg wKnown53⟩
theorem kKnown657:KKnown657.Ok Try.prog:=CF.of2 noNG mixed (l:=[KKnown656,KKnown655]) (.cons kKnown656 (.cons kKnown655 .nil)) 3000 (by kernel_rfl)
def KKnown658:CF:=⟨86,[.agg ⟨[vJ 66,vI 67,vI 0,vI 0,vI 8690,vI 8690]⟩,vI 2000000000],vT⟩
theorem kKnown658:KKnown658.Ok Try.prog:=CF.of2 noNG mixed (l:=[]) .nil 3000 (by kernel_rfl)
def KKnown659:CF:=⟨86,[.agg ⟨[vJ 1,vI 2,vI 0,vI 0,vJ 1331,vJ 1331]⟩,vI 1000000],vT⟩
theorem kKnown659:KKnown659.Ok Try.prog:=CF.of2 noNG mixed (l:=[]) .nil 3000 (by kernel_rfl)
def KKnown660:CF:=⟨68,[.agg wKnown53],vF⟩
theorem kKnown660:KKnown660.Ok Try.prog:=CF.of2 noNG mixed (l:=[KKnown658,KKnown659]) (.cons kKnown658 (.cons kKnown659 .nil)) 3000 (by kernel_rfl)
def KKnown661:CF:=⟨70,[lstV wKnown0 0 1 13,vI 34],.agg ⟨[vI 0,vI 0,vI 0,vI 10,vI 10,vI 0,vI 0,vI 0,vI 0,vI 0,vI 0,vI 0,vI 0]⟩⟩
theorem kKnown661:KKnown661.Ok Try.prog:=CF.of2 noNG mixed (l:=[]) .nil 3000 (by kernel_rfl)
def KKnown662:CF:=⟨55,[lstV wKnown2 0 2 7,.agg ⟨[vI 8690,vI 8690]⟩,.func (.func 57) ⟨[]⟩ ⟨[]⟩],.agg ⟨[vI 300,vI 300,vI 0,vI 0,vI 0,vI 0]⟩⟩
theorem kKnown662:KKnown662.Ok Try.prog:=CF.of2 noNG mixed (l:=[]) .nil 3000 (by kernel_rfl)
def KKnown663:CF:=⟨91,[.agg ⟨[vJ 1,vI 2,vI 0,vI 0,vJ 1331,vJ 1331]⟩,.func (.func 98) ⟨[]⟩ ⟨[]⟩,.agg ⟨[vI 300,vI 300,vI 0,vI 0,vI 0,vI 0]⟩],.agg ⟨[vJ 301,vJ 297,vI 0,vI 0,vJ 1331,vJ 1331]⟩⟩
theorem kKnown663:KKnown663.Ok Try.prog:=CF.of2 noNG mixed (l:=[]) .nil 3000 (by kernel_rfl)
def KKnown664:CF:=⟨125,[.agg ⟨[vI 1863028,vI 1865428]⟩],.agg ⟨[vI 1364,vI 1366]⟩⟩
theorem kKnown664:KKnown664.Ok Try.prog:=CF.of2 noNG mixed (l:=[]) .nil 3000 (by kernel_rfl)
def KKnown665:CF:=⟨116,[.agg ⟨[vJ 301,vJ 297,vI 0,vI 0,vJ 1331,vJ 1331]⟩],.agg ⟨[vI 1364,vI 1366]⟩⟩
theorem kKnown665:KKnown665.Ok Try.prog:=CF.of2 noNG mixed (l:=[KKnown664]) (.cons kKnown664 .nil) 3000 (by kernel_rfl)
def KKnown666:CF:=⟨91,[.agg ⟨[vJ 301,vJ 297,vI 0,vI 0,vJ 1331,vJ 1331]⟩,.func (.func 111) ⟨[]⟩ ⟨[]⟩,.agg ⟨[vI 0,vI 0,vI 0,vI 0,vI 0,vI 0]⟩],.agg ⟨[vI 0,vI 0,vI 0,vI 0,vI 0,vI 0]⟩⟩
theorem kKnown666:KKnown666.Ok Try.prog:=CF.of2 noNG mixed (l:=[]) .nil 3000 (by kernel_rfl)
def KKnown667:CF:=⟨112,[.agg ⟨[vJ 301,vJ 297,vI 0,vI 0,vJ 1331,vJ 1331]⟩,.func (.func 111) ⟨[]⟩ ⟨[]⟩,.agg ⟨[vI 0,vI 0]⟩],.agg ⟨[vI 0,vI 0,vI 0,vI 0,vI 0,vI 0]⟩⟩
theorem kKnown667:KKnown667.Ok Try.prog:=CF.of2 noNG mixed (l:=[KKnown666]) (.cons kKnown666 .nil) 3000 (by kernel_rfl)
def KKnown668:CF:=⟨99,[.agg wKnown5,.agg ⟨[vI 0,vI 0,vI 0,vI 10,vI 10,vI 0,vI 0,vI 0,vI 0,vI 0,vI 0,vI 0,vI 0]⟩,.agg wKnown53],.agg ⟨[vI 0,vI 0,vI 0,vI 0,vI 0,vI 0]⟩⟩
theorem kKnown668:KKnown668.Ok Try.prog:=CF.of2 noNG mixed (l:=[KKnown662,KKnown663,KKnown665,KKnown27,KKnown667]) (.cons kKnown662 (.cons kKnown663 (.cons kKnown665 (.cons kKnown27 (.cons kKnown667 .nil))))) 3000 (by kernel_rfl)
def KKnown669:CF:=⟨69,[.agg wKnown5,.agg ⟨[vI 0,vI 0,vI 0,vI 10,vI 10,vI 0,vI 0,vI 0,vI 0,vI 0,vI 0,vI 0,vI 0]⟩,.agg wKnown53],.agg ⟨[vI 0,vI 0,vI 0,vI 0,vJ 97,vJ 97]⟩⟩
theorem kKnown669:KKnown669.Ok Try.prog:=CF.of2 noNG mixed (l:=[KKnown40,KKnown41,KKnown668,KKnown77]) (.cons kKnown40 (.cons kKnown41 (.cons kKnown668 (.cons kKnown77 .nil)))) 3000 (by kernel_rfl)
def KKnown670:CF:=⟨91,[.agg ⟨[vJ 1,vI 2,vI 0,vI 0,vJ 1331,vJ 1331]⟩,.func (.func 105) ⟨[]⟩ ⟨[]⟩,.agg ⟨[vI 0,vI 0,vI 0,vI 0,vJ 97,vJ 97]⟩],.agg ⟨[vJ 1,vI 2,vI 0,vI 0,vJ 1429,vJ 1429]⟩⟩
theorem kKnown670:KKnown670.Ok Try.prog:=CF.of2 noNG mixed (l:=[]) .nil 3000 (by kernel_rfl)
def KKnown671:CF:=⟨91,[.agg ⟨[vJ 66,vI 67,vI 0,vI 0,vI 8690,vI 8690]⟩,.func (.func 105) ⟨[]⟩ ⟨[]⟩,.agg ⟨[vJ 1,vI 2,vI 0,vI 0,vJ 1429,vJ 1429]⟩],.agg ⟨[vJ 68,vI 69,vI 0,vI 0,vI 7260,vI 7260]⟩⟩
theorem kKnown671:KKnown671.Ok Try.prog:=CF.of2 noNG mixed (l:=[]) .nil 3000 (by kernel_rfl)
def KKnown672:CF:=⟨119,[.agg wKnown53,.agg ⟨[vI 0,vI 0,vI 0,vI 0,vJ 97,vJ 97]⟩],.agg wKnown54⟩
theorem kKnown672:KKnown672.Ok Try.prog:=CF.of2 noNG mixed (l:=[KKnown670,KKnown671]) (.cons kKnown670 (.cons kKnown671 .nil)) 3000 (by kernel_rfl)
def KKnown673:CF:=⟨86,[.agg ⟨[vJ 68,vI 69,vI 0,vI 0,vI 7260,vI 7260]⟩,vI 2000000000],vT⟩
theorem kKnown673:KKnown673.Ok Try.prog:=CF.of2 noNG mixed (l:=[]) .nil 3000 (by kernel_rfl)
def KKnown674:CF:=⟨86,[.agg ⟨[vJ 1,vI 2,vI 0,vI 0,vJ 1429,vJ 1429]⟩,vI 1000000],vT⟩
theorem kKnown674:KKnown674.Ok Try.prog:=CF.of2 noNG mixed (l:=[]) .nil 3000 (by kernel_rfl)
def KKnown675:CF:=⟨68,[.agg wKnown54],vF⟩
theorem kKnown675:KKnown675.Ok Try.prog:=CF.of2 noNG mixed (l:=[KKnown673,KKnown674]) (.cons kKnown673 (.cons kKnown674 .nil)) 3000 (by kernel_rfl)
def KKnown676:CF:=⟨70,[lstV wKnown0 0 1 13,vI 35],.agg ⟨[vI 0,vI 0,vI 0,vI 10,vI 10,vI 0,vI 0,vI 0,vI 0,vI 0,vI 0,vI 0,vI 0]⟩⟩
theorem kKnown676:KKnown676.Ok Try.prog:=CF.of2 noNG mixed (l:=[]) .nil 3000 (by kernel_rfl)
def KKnown677:CF:=⟨55,[lstV wKnown2 0 2 7,.agg ⟨[vI 7260,vI 7260]⟩,.func (.func 57) ⟨[]⟩ ⟨[]⟩],.agg ⟨[vI 300,vI 300,vI 0,vI 0,vI 0,vI 0]⟩⟩
theorem kKnown677:KKnown677.Ok Try.prog:=CF.of2 noNG mixed (l:=[]) .nil 3000 (by kernel_rfl)
def KKnown678:CF:=⟨91,[.agg ⟨[vJ 1,vI 2,vI 0,vI 0,vJ 1429,vJ 1429]⟩,.func (.func 98) ⟨[]⟩ ⟨[]⟩,.agg ⟨[vI 300,vI 300,vI 0,vI 0,vI 0,vI 0]⟩],.agg ⟨[vJ 301,vJ 297,vI 0,vI 0,vJ 1429,vJ 1429]⟩⟩
theorem kKnown678:KKnown678.Ok Try.prog:=CF.of2 noNG mixed (l:=[]) .nil 3000 (by kernel_rfl)
def KKnown679:CF:=⟨125,[.agg ⟨[vI 2133704,vI 2136104]⟩],.agg ⟨[vI 1460,vI 1462]⟩⟩
theorem kKnown679:KKnown679.Ok Try.prog:=CF.of2 noNG mixed (l:=[]) .nil 3000 (by kernel_rfl)
def KKnown680:CF:=⟨116,[.agg ⟨[vJ 301,vJ 297,vI 0,vI 0,vJ 1429,vJ 1429]⟩],.agg ⟨[vI 1460,vI 1462]⟩⟩
theorem kKnown680:KKnown680.Ok Try.prog:=CF.of2 noNG mixed (l:=[KKnown679]) (.cons kKnown679 .nil) 3000 (by kernel_rfl)
def KKnown681:CF:=⟨91,[.agg ⟨[vJ 301,vJ 297,vI 0,vI 0,vJ 1429,vJ 1429]⟩,.func (.func 111) ⟨[]⟩ ⟨[]⟩,.agg ⟨[vI 0,vI 0,vI 0,vI 0,vI 0,vI 0]⟩],.agg ⟨[vI 0,vI 0,vI 0,vI 0,vI 0,vI 0]⟩⟩
theorem kKnown681:KKnown681.Ok Try.prog:=CF.of2 noNG mixed (l:=[]) .nil 3000 (by kernel_rfl)
def KKnown682:CF:=⟨112,[.agg ⟨[vJ 301,vJ 297,vI 0,vI 0,vJ 1429,vJ 1429]⟩,.func (.func 111) ⟨[]⟩ ⟨[]⟩,.agg ⟨[vI 0,vI 0]⟩],.agg ⟨[vI 0,vI 0,vI 0,vI 0,vI 0,vI 0]⟩⟩
theorem kKnown682:KKnown682.Ok Try.prog:=CF.of2 noNG mixed (l:=[KKnown681]) (.cons kKnown681 .nil) 3000 (by kernel_rfl)
def KKnown683:CF:=⟨99,[.agg wKnown5,.agg ⟨[vI 0,vI 0,vI 0,vI 10,vI 10,vI 0,vI 0,vI 0,vI 0,vI 0,vI 0,vI 0,vI 0]⟩,.agg wKnown54],.agg ⟨[vI 0,vI 0,vI 0,vI 0,vI 0,vI 0]⟩⟩
theorem kKnown683:KKnown683.Ok Try.prog:=CF.of2 noNG mixed (l:=[KKnown677,KKnown678,KKnown680,KKnown682,KKnown27]) (.cons kKnown677 (.cons kKnown678 (.cons kKnown680 (.cons kKnown682 (.cons kKnown27 .nil))))) 3000 (by kernel_rfl)
def KKnown684:CF:=⟨69,[.agg wKnown5,.agg ⟨[vI 0,vI 0,vI 0,vI 10,vI 10,vI 0,vI 0,vI 0,vI 0,vI 0,vI 0,vI 0,vI 0]⟩,.agg wKnown54],.agg ⟨[vI 0,vI 0,vI 0,vI 0,vJ 97,vJ 97]⟩⟩
theorem kKnown684:KKnown684.Ok Try.prog:=CF.of2 noNG mixed (l:=[KKnown40,KKnown41,KKnown683,KKnown77]) (.cons kKnown40 (.cons kKnown41 (.cons kKnown683 (.cons kKnown77 .nil)))) 3000 (by kernel_rfl)
def KKnown685:CF:=⟨91,[.agg ⟨[vJ 1,vI 2,vI 0,vI 0,vJ 1429,vJ 1429]⟩,.func (.func 105) ⟨[]⟩ ⟨[]⟩,.agg ⟨[vI 0,vI 0,vI 0,vI 0,vJ 97,vJ 97]⟩],.agg ⟨[vJ 1,vI 2,vI 0,vI 0,vJ 1527,vJ 1527]⟩⟩
theorem kKnown685:KKnown685.Ok Try.prog:=CF.of2 noNG mixed (l:=[]) .nil 3000 (by kernel_rfl)
def KKnown686:CF:=⟨91,[.agg ⟨[vJ 68,vI 69,vI 0,vI 0,vI 7260,vI 7260]⟩,.func (.func 105) ⟨[]⟩ ⟨[]⟩,.agg ⟨[vJ 1,vI 2,vI 0,vI 0,vJ 1527,vJ 1527]⟩],.agg ⟨[vJ 70,vI 71,vI 0,vI 0,vI 5732,vI 5732]⟩⟩
theorem kKnown686:KKnown686.Ok Try.prog:=CF.of2 noNG mixed (l:=[]) .nil 3000 (by kernel_rfl)
def KKnown687:CF:=⟨119,[.agg wKnown54,.agg ⟨[vI 0,vI 0,vI 0,vI 0,vJ 97,vJ 97]⟩],.agg wKnown55⟩
theorem kKnown687:KKnown687.Ok Try.prog:=CF.of2 noNG mixed (l:=[KKnown685,KKnown686]) (.cons kKnown685 (.cons kKnown686 .nil)) 3000 (by kernel_rfl)
def KKnown688:CF:=⟨86,[.agg ⟨[vJ 70,vI 71,vI 0,vI 0,vI 5732,vI 5732]⟩,vI 2000000000],vT⟩
theorem kKnown688:KKnown688.Ok Try.prog:=CF.of2 noNG mixed (l:=[]) .nil 3000 (by kernel_rfl)
def KKnown689:CF:=⟨86,[.agg ⟨[vJ 1,vI 2,vI 0,vI 0,vJ 1527,vJ 1527]⟩,vI 1000000],vT⟩
theorem kKnown689:KKnown689.Ok Try.prog:=CF.of2 noNG mixed (l:=[]) .nil 3000 (by kernel_rfl)
def KKnown690:CF:=⟨68,[.agg wKnown55],vF⟩
theorem kKnown690:KKnown690.Ok Try.prog:=CF.of2 noNG mixed (l:=[KKnown688,KKnown689]) (.cons kKnown688 (.cons kKnown689 .nil)) 3000 (by kernel_rfl)
def KKnown691:CF:=⟨70,[lstV wKnown0 0 1 13,vI 36],.agg ⟨[vI 0,vI 0,vI 0,vI 10,vI 10,vI 0,vI 0,vI 0,vI 0,vI 0,vI 0,vI 0,vI 0]⟩⟩
theorem kKnown691:KKnown691.Ok Try.prog:=CF.of2 noNG mixed (l:=[]) .nil 3000 (by kernel_rfl)
def KKnown692:CF:=⟨55,[lstV wKnown2 0 2 7,.agg ⟨[vI 5732,vI 5732]⟩,.func (.func 57) ⟨[]⟩ ⟨[]⟩],.agg ⟨[vI 300,vI 300,vI 0,vI 0,vI 0,vI 0]⟩⟩
theorem kKnown692:KKnown692.Ok Try.prog:=CF.of2 noNG mixed (l:=[]) .nil 3000 (by kernel_rfl)
def KKnown693:CF:=⟨91,[.agg ⟨[vJ 1,vI 2,vI 0,vI 0,vJ 1527,vJ 1527]⟩,.func (.func 98) ⟨[]⟩ ⟨[]⟩,.agg ⟨[vI 300,vI 300,vI 0,vI 0,vI 0,vI 0]⟩],.agg ⟨[vJ 301,vJ 297,vI 0,vI 0,vJ 1527,vJ 1527]⟩⟩
theorem kKnown693:KKnown693.Ok Try.prog:=CF.of2 noNG mixed (l:=[]) .nil 3000 (by kernel_rfl)
def KKnown694:CF:=⟨125,[.agg ⟨[vI 2423588,vI 2425988]⟩],.agg ⟨[vI 1556,vI 1558]⟩⟩
theorem kKnown694:KKnown694.Ok Try.prog:=CF.of2 noNG mixed (l:=[]) .nil 3000 (by kernel_rfl)
def KKnown695:CF:=⟨116,[.agg ⟨[vJ 301,vJ 297,vI 0,vI 0,vJ 1527,vJ 1527]⟩],.agg ⟨[vI 1556,vI 1558]⟩⟩
theorem kKnown695:KKnown695.Ok Try.prog:=CF.of2 noNG mixed (l:=[KKnown694]) (.cons kKnown694 .nil) 3000 (by kernel_rfl)
def KKnown696:CF:=⟨91,[.agg ⟨[vJ 301,vJ 297,vI 0,vI 0,vJ 1527,vJ 1527]⟩,.func (.func 111) ⟨[]⟩ ⟨[]⟩,.agg ⟨[vI 0,vI 0,vI 0,vI 0,vI 0,vI 0]⟩],.agg ⟨[vI 0,vI 0,vI 0,vI 0,vI 0,vI 0]⟩⟩
theorem kKnown696:KKnown696.Ok Try.prog:=CF.of2 noNG mixed (l:=[]) .nil 3000 (by kernel_rfl)
def KKnown697:CF:=⟨112,[.agg ⟨[vJ 301,vJ 297,vI 0,vI 0,vJ 1527,vJ 1527]⟩,.func (.func 111) ⟨[]⟩ ⟨[]⟩,.agg ⟨[vI 0,vI 0]⟩],.agg ⟨[vI 0,vI 0,vI 0,vI 0,vI 0,vI 0]⟩⟩
theorem kKnown697:KKnown697.Ok Try.prog:=CF.of2 noNG mixed (l:=[KKnown696]) (.cons kKnown696 .nil) 3000 (by kernel_rfl)
def KKnown698:CF:=⟨99,[.agg wKnown5,.agg ⟨[vI 0,vI 0,vI 0,vI 10,vI 10,vI 0,vI 0,vI 0,vI 0,vI 0,vI 0,vI 0,vI 0]⟩,.agg wKnown55],.agg ⟨[vI 0,vI 0,vI 0,vI 0,vI 0,vI 0]⟩⟩
theorem kKnown698:KKnown698.Ok Try.prog:=CF.of2 noNG mixed (l:=[KKnown692,KKnown693,KKnown695,KKnown697,KKnown27]) (.cons kKnown692 (.cons kKnown693 (.cons kKnown695 (.cons kKnown697 (.cons kKnown27 .nil))))) 3000 (by kernel_rfl)
def KKnown699:CF:=⟨69,[.agg wKnown5,.agg ⟨[vI 0,vI 0,vI 0,vI 10,vI 10,vI 0,vI 0,vI 0,vI 0,vI 0,vI 0,vI 0,vI 0]⟩,.agg wKnown55],.agg ⟨[vI 0,vI 0,vI 0,vI 0,vJ 97,vJ 97]⟩⟩
theorem kKnown699:KKnown699.Ok Try.prog:=CF.of2 noNG mixed (l:=[KKnown40,KKnown41,KKnown698,KKnown77]) (.cons kKnown40 (.cons kKnown41 (.cons kKnown698 (.cons kKnown77 .nil)))) 3000 (by kernel_rfl)
def KKnown700:CF:=⟨91,[.agg ⟨[vJ 1,vI 2,vI 0,vI 0,vJ 1527,vJ 1527]⟩,.func (.func 105) ⟨[]⟩ ⟨[]⟩,.agg ⟨[vI 0,vI 0,vI 0,vI 0,vJ 97,vJ 97]⟩],.agg ⟨[vJ 1,vI 2,vI 0,vI 0,vJ 1625,vJ 1625]⟩⟩
theorem kKnown700:KKnown700.Ok Try.prog:=CF.of2 noNG mixed (l:=[]) .nil 3000 (by kernel_rfl)
def KKnown701:CF:=⟨91,[.agg ⟨[vJ 70,vI 71,vI 0,vI 0,vI 5732,vI 5732]⟩,.func (.func 105) ⟨[]⟩ ⟨[]⟩,.agg ⟨[vJ 1,vI 2,vI 0,vI 0,vJ 1625,vJ 1625]⟩],.agg ⟨[vJ 72,vI 73,vI 0,vI 0,vI 4106,vI 4106]⟩⟩
theorem kKnown701:KKnown701.Ok Try.prog:=CF.of2 noNG mixed (l:=[]) .nil 3000 (by kernel_rfl)
def KKnown702:CF:=⟨119,[.agg wKnown55,.agg ⟨[vI 0,vI 0,vI 0,vI 0,vJ 97,vJ 97]⟩],.agg wKnown56⟩
theorem kKnown702:KKnown702.Ok Try.prog:=CF.of2 noNG mixed (l:=[KKnown700,KKnown701]) (.cons kKnown700 (.cons kKnown701 .nil)) 3000 (by kernel_rfl)
def KKnown703:CF:=⟨86,[.agg ⟨[vJ 72,vI 73,vI 0,vI 0,vI 4106,vI 4106]⟩,vI 2000000000],vT⟩
theorem kKnown703:KKnown703.Ok Try.prog:=CF.of2 noNG mixed (l:=[]) .nil 3000 (by kernel_rfl)
def KKnown704:CF:=⟨86,[.agg ⟨[vJ 1,vI 2,vI 0,vI 0,vJ 1625,vJ 1625]⟩,vI 1000000],vT⟩
theorem kKnown704:KKnown704.Ok Try.prog:=CF.of2 noNG mixed (l:=[]) .nil 3000 (by kernel_rfl)
def KKnown705:CF:=⟨68,[.agg wKnown56],vF⟩
theorem kKnown705:KKnown705.Ok Try.prog:=CF.of2 noNG mixed (l:=[KKnown704,KKnown703]) (.cons kKnown704 (.cons kKnown703 .nil)) 3000 (by kernel_rfl)
def KKnown706:CF:=⟨70,[lstV wKnown0 0 1 13,vI 37],.agg ⟨[vI 0,vI 0,vI 0,vI 10,vI 10,vI 0,vI 0,vI 0,vI 0,vI 0,vI 0,vI 0,vI 0]⟩⟩
theorem kKnown706:KKnown706.Ok Try.prog:=CF.of2 noNG mixed (l:=[]) .nil 3000 (by kernel_rfl)
def KKnown707:CF:=⟨55,[lstV wKnown2 0 2 7,.agg ⟨[vI 4106,vI 4106]⟩,.func (.func 57) ⟨[]⟩ ⟨[]⟩],.agg ⟨[vI 300,vI 300,vI 0,vI 0,vI 0,vI 0]⟩⟩
theorem kKnown707:KKnown707.Ok Try.prog:=CF.of2 noNG mixed (l:=[]) .nil 3000 (by kernel_rfl)
def KKnown708:CF:=⟨91,[.agg ⟨[vJ 1,vI 2,vI 0,vI 0,vJ 1625,vJ 1625]⟩,.func (.func 98) ⟨[]⟩ ⟨[]⟩,.agg ⟨[vI 300,vI 300,vI 0,vI 0,vI 0,vI 0]⟩],.agg ⟨[vJ 301,vJ 297,vI 0,vI 0,vJ 1625,vJ 1625]⟩⟩
theorem kKnown708:KKnown708.Ok Try.prog:=CF.of2 noNG mixed (l:=[]) .nil 3000 (by kernel_rfl)
def KKnown709:CF:=⟨125,[.agg ⟨[vI 2732680,vI 2735080]⟩],.agg ⟨[vI 1653,vI 1654]⟩⟩
theorem kKnown709:KKnown709.Ok Try.prog:=CF.of2 noNG mixed (l:=[]) .nil 3000 (by kernel_rfl)
def KKnown710:CF:=⟨116,[.agg ⟨[vJ 301,vJ 297,vI 0,vI 0,vJ 1625,vJ 1625]⟩],.agg ⟨[vI 1653,vI 1654]⟩⟩
theorem kKnown710:KKnown710.Ok Try.prog:=CF.of2 noNG mixed (l:=[KKnown709]) (.cons kKnown709 .nil) 3000 (by kernel_rfl)
def KKnown711:CF:=⟨91,[.agg ⟨[vJ 301,vJ 297,vI 0,vI 0,vJ 1625,vJ 1625]⟩,.func (.func 111) ⟨[]⟩ ⟨[]⟩,.agg ⟨[vI 0,vI 0,vI 0,vI 0,vI 0,vI 0]⟩],.agg ⟨[vI 0,vI 0,vI 0,vI 0,vI 0,vI 0]⟩⟩
theorem kKnown711:KKnown711.Ok Try.prog:=CF.of2 noNG mixed (l:=[]) .nil 3000 (by kernel_rfl)
def KKnown712:CF:=⟨112,[.agg ⟨[vJ 301,vJ 297,vI 0,vI 0,vJ 1625,vJ 1625]⟩,.func (.func 111) ⟨[]⟩ ⟨[]⟩,.agg ⟨[vI 0,vI 0]⟩],.agg ⟨[vI 0,vI 0,vI 0,vI 0,vI 0,vI 0]⟩⟩
theorem kKnown712:KKnown712.Ok Try.prog:=CF.of2 noNG mixed (l:=[KKnown711]) (.cons kKnown711 .nil) 3000 (by kernel_rfl)
def KKnown713:CF:=⟨99,[.agg wKnown5,.agg ⟨[vI 0,vI 0,vI 0,vI 10,vI 10,vI 0,vI 0,vI 0,vI 0,vI 0,vI 0,vI 0,vI 0]⟩,.agg wKnown56],.agg ⟨[vI 0,vI 0,vI 0,vI 0,vI 0,vI 0]⟩⟩
theorem kKnown713:KKnown713.Ok Try.prog:=CF.of2 noNG mixed (l:=[KKnown707,KKnown708,KKnown710,KKnown712,KKnown27]) (.cons kKnown707 (.cons kKnown708 (.cons kKnown710 (.cons kKnown712 (.cons kKnown27 .nil))))) 3000 (by kernel_rfl)
def KKnown714:CF:=⟨69,[.agg wKnown5,.agg ⟨[vI 0,vI 0,vI 0,vI 10,vI 10,vI 0,vI 0,vI 0,vI 0,vI 0,vI 0,vI 0,vI 0]⟩,.agg wKnown56],.agg ⟨[vI 0,vI 0,vI 0,vI 0,vJ 97,vJ 97]⟩⟩
theorem kKnown714:KKnown714.Ok Try.prog:=CF.of2 noNG mixed (l:=[KKnown40,KKnown713,KKnown77,KKnown41]) (.cons kKnown40 (.cons kKnown713 (.cons kKnown77 (.cons kKnown41 .nil)))) 3000 (by kernel_rfl)
def KKnown715:CF:=⟨91,[.agg ⟨[vJ 1,vI 2,vI 0,vI 0,vJ 1625,vJ 1625]⟩,.func (.func 105) ⟨[]⟩ ⟨[]⟩,.agg ⟨[vI 0,vI 0,vI 0,vI 0,vJ 97,vJ 97]⟩],.agg ⟨[vJ 1,vI 2,vI 0,vI 0,vJ 1723,vJ 1723]⟩⟩
theorem kKnown715:KKnown715.Ok Try.prog:=CF.of2 noNG mixed (l:=[]) .nil 3000 (by kernel_rfl)
def KKnown716:CF:=⟨91,[.agg ⟨[vJ 72,vI 73,vI 0,vI 0,vI 4106,vI 4106]⟩,.func (.func 105) ⟨[]⟩ ⟨[]⟩,.agg ⟨[vJ 1,vI 2,vI 0,vI 0,vJ 1723,vJ 1723]⟩],.agg ⟨[vJ 74,vI 75,vI 0,vI 0,vI 2382,vI 2382]⟩⟩
theorem kKnown716:KKnown716.Ok Try.prog:=CF.of2 noNG mixed (l:=[]) .nil 3000 (by kernel_rfl)
def KKnown717:CF:=⟨119,[.agg wKnown56,.agg ⟨[vI 0,vI 0,vI 0,vI 0,vJ 97,vJ 97]⟩],.agg wKnown57⟩
theorem kKnown717:KKnown717.Ok Try.prog:=CF.of2 noNG mixed (l:=[KKnown715,KKnown716]) (.cons kKnown715 (.cons kKnown716 .nil)) 3000 (by kernel_rfl)
def KKnown718:CF:=⟨86,[.agg ⟨[vJ 74,vI 75,vI 0,vI 0,vI 2382,vI 2382]⟩,vI 2000000000],vT⟩
theorem kKnown718:KKnown718.Ok Try.prog:=CF.of2 noNG mixed (l:=[]) .nil 3000 (by kernel_rfl)
def KKnown719:CF:=⟨86,[.agg ⟨[vJ 1,vI 2,vI 0,vI 0,vJ 1723,vJ 1723]⟩,vI 1000000],vT⟩
theorem kKnown719:KKnown719.Ok Try.prog:=CF.of2 noNG mixed (l:=[]) .nil 3000 (by kernel_rfl)
def KKnown720:CF:=⟨68,[.agg wKnown57],vF⟩
theorem kKnown720:KKnown720.Ok Try.prog:=CF.of2 noNG mixed (l:=[KKnown718,KKnown719]) (.cons kKnown718 (.cons kKnown719 .nil)) 3000 (by kernel_rfl)
def KKnown721:CF:=⟨70,[lstV wKnown0 0 1 13,vI 38],.agg ⟨[vI 0,vI 0,vI 0,vI 10,vI 10,vI 0,vI 0,vI 0,vI 0,vI 0,vI 0,vI 0,vI 0]⟩⟩
theorem kKnown721:KKnown721.Ok Try.prog:=CF.of2 noNG mixed (l:=[]) .nil 3000 (by kernel_rfl)
def KKnown722:CF:=⟨55,[lstV wKnown2 0 2 7,.agg ⟨[vI 2382,vI 2382]⟩,.func (.func 57) ⟨[]⟩ ⟨[]⟩],.agg ⟨[vI 300,vI 300,vI 0,vI 0,vI 0,vI 0]⟩⟩
theorem kKnown722:KKnown722.Ok Try.prog:=CF.of2 noNG mixed (l:=[]) .nil 3000 (by kernel_rfl)
def KKnown723:CF:=⟨91,[.agg ⟨[vJ 1,vI 2,vI 0,vI 0,vJ 1723,vJ 1723]⟩,.func (.func 98) ⟨[]⟩ ⟨[]⟩,.agg ⟨[vI 300,vI 300,vI 0,vI 0,vI 0,vI 0]⟩],.agg ⟨[vJ 301,vJ 297,vI 0,vI 0,vJ 1723,vJ 1723]⟩⟩
theorem kKnown723:KKnown723.Ok Try.prog:=CF.of2 noNG mixed (l:=[]) .nil 3000 (by kernel_rfl)
def KKnown724:CF:=⟨125,[.agg ⟨[vI 3060980,vI 3063380]⟩],.agg ⟨[vI 1749,vI 1751]⟩⟩
theorem kKnown724:KKnown724.Ok Try.prog:=CF.of2 noNG mixed (l:=[]) .nil 3000 (by kernel_rfl)
def KKnown725:CF:=⟨116,[.agg ⟨[vJ 301,vJ 297,vI 0,vI 0,vJ 1723,vJ 1723]⟩],.agg ⟨[vI 1749,vI 1751]⟩⟩
theorem kKnown725:KKnown725.Ok Try.prog:=CF.of2 noNG mixed (l:=[KKnown724]) (.cons kKnown724 .nil) 3000 (by kernel_rfl)
def KKnown726:CF:=⟨91,[.agg ⟨[vJ 301,vJ 297,vI 0,vI 0,vJ 1723,vJ 1723]⟩,.func (.func 111) ⟨[]⟩ ⟨[]⟩,.agg ⟨[vI 0,vI 0,vI 0,vI 0,vI 0,vI 0]⟩],.agg ⟨[vI 0,vI 0,vI 0,vI 0,vI 0,vI 0]⟩⟩
theorem kKnown726:KKnown726.Ok Try.prog:=CF.of2 noNG mixed (l:=[]) .nil 3000 (by kernel_rfl)
def KKnown727:CF:=⟨112,[.agg ⟨[vJ 301,vJ 297,vI 0,vI 0,vJ 1723,vJ 1723]⟩,.func (.func 111) ⟨[]⟩ ⟨[]⟩,.agg ⟨[vI 0,vI 0]⟩],.agg ⟨[vI 0,vI 0,vI 0,vI 0,vI 0,vI 0]⟩⟩
theorem kKnown727:KKnown727.Ok Try.prog:=CF.of2 noNG mixed (l:=[KKnown726]) (.cons kKnown726 .nil) 3000 (by kernel_rfl)
def KKnown728:CF:=⟨99,[.agg wKnown5,.agg ⟨[vI 0,vI 0,vI 0,vI 10,vI 10,vI 0,vI 0,vI 0,vI 0,vI 0,vI 0,vI 0,vI 0]⟩,.agg wKnown57],.agg ⟨[vI 0,vI 0,vI 0,vI 0,vI 0,vI 0]⟩⟩
theorem kKnown728:KKnown728.Ok Try.prog:=CF.of2 noNG mixed (l:=[KKnown722,KKnown723,KKnown725,KKnown727,KKnown27]) (.cons kKnown722 (.cons kKnown723 (.cons kKnown725 (.cons kKnown727 (.cons kKnown27 .nil))))) 3000 (by kernel_rfl)
def KKnown729:CF:=⟨69,[.agg wKnown5,.agg ⟨[vI 0,vI 0,vI 0,vI 10,vI 10,vI 0,vI 0,vI 0,vI 0,vI 0,vI 0,vI 0,vI 0]⟩,.agg wKnown57],.agg ⟨[vI 0,vI 0,vI 0,vI 0,vJ 97,vJ 97]⟩⟩
theorem kKnown729:KKnown729.Ok Try.prog:=CF.of2 noNG mixed (l:=[KKnown728,KKnown41,KKnown40,KKnown77]) (.cons kKnown728 (.cons kKnown41 (.cons kKnown40 (.cons kKnown77 .nil)))) 3000 (by kernel_rfl)
def KKnown730:CF:=⟨91,[.agg ⟨[vJ 1,vI 2,vI 0,vI 0,vJ 1723,vJ 1723]⟩,.func (.func 105) ⟨[]⟩ ⟨[]⟩,.agg ⟨[vI 0,vI 0,vI 0,vI 0,vJ 97,vJ 97]⟩],.agg ⟨[vJ 1,vI 2,vI 0,vI 0,vJ 1821,vJ 1821]⟩⟩
theorem kKnown730:KKnown730.Ok Try.prog:=CF.of2 noNG mixed (l:=[]) .nil 3000 (by kernel_rfl)
def KKnown731:CF:=⟨91,[.agg ⟨[vJ 74,vI 75,vI 0,vI 0,vI 2382,vI 2382]⟩,.func (.func 105) ⟨[]⟩ ⟨[]⟩,.agg ⟨[vJ 1,vI 2,vI 0,vI 0,vJ 1821,vJ 1821]⟩],.agg ⟨[vJ 76,vI 77,vI 0,vI 0,vI 560,vI 560]⟩⟩
theorem kKnown731:KKnown731.Ok Try.prog:=CF.of2 noNG mixed (l:=[]) .nil 3000 (by kernel_rfl)
def KKnown732:CF:=⟨119,[.agg wKnown57,.agg ⟨[vI 0,vI 0,vI 0,vI 0,vJ 97,vJ 97]⟩],.agg wKnown58⟩
theorem kKnown732:KKnown732.Ok Try.prog:=CF.of2 noNG mixed (l:=[KKnown730,KKnown731]) (.cons kKnown730 (.cons kKnown731 .nil)) 3000 (by kernel_rfl)
def KKnown733:CF:=⟨86,[.agg ⟨[vJ 76,vI 77,vI 0,vI 0,vI 560,vI 560]⟩,vI 2000000000],vT⟩
theorem kKnown733:KKnown733.Ok Try.prog:=CF.of2 noNG mixed (l:=[]) .nil 3000 (by kernel_rfl)
def KKnown734:CF:=⟨86,[.agg ⟨[vJ 1,vI 2,vI 0,vI 0,vJ 1821,vJ 1821]⟩,vI 1000000],vT⟩
theorem kKnown734:KKnown734.Ok Try.prog:=CF.of2 noNG mixed (l:=[]) .nil 3000 (by kernel_rfl)
def KKnown735:CF:=⟨68,[.agg wKnown58],vF⟩
theorem kKnown735:KKnown735.Ok Try.prog:=CF.of2 noNG mixed (l:=[KKnown733,KKnown734]) (.cons kKnown733 (.cons kKnown734 .nil)) 3000 (by kernel_rfl)
def KKnown736:CF:=⟨70,[lstV wKnown0 0 1 13,vI 39],.agg ⟨[vI 0,vI 0,vI 0,vI 10,vI 10,vI 0,vI 0,vI 0,vI 0,vI 0,vI 0,vI 0,vI 0]⟩⟩
theorem kKnown736:KKnown736.Ok Try.prog:=CF.of2 noNG mixed (l:=[]) .nil 3000 (by kernel_rfl)
def KKnown737:CF:=⟨55,[lstV wKnown2 0 2 7,.agg ⟨[vI 560,vI 560]⟩,.func (.func 57) ⟨[]⟩ ⟨[]⟩],.agg ⟨[vI 300,vI 300,vI 0,vI 0,vI 0,vI 0]⟩⟩
theorem kKnown737:KKnown737.Ok Try.prog:=CF.of2 noNG mixed (l:=[]) .nil 3000 (by kernel_rfl)
def KKnown738:CF:=⟨91,[.agg ⟨[vJ 1,vI 2,vI 0,vI 0,vJ 1821,vJ 1821]⟩,.func (.func 98) ⟨[]⟩ ⟨[]⟩,.agg ⟨[vI 300,vI 300,vI 0,vI 0,vI 0,vI 0]⟩],.agg ⟨[vJ 301,vJ 297,vI 0,vI 0,vJ 1821,vJ 1821]⟩⟩
theorem kKnown738:KKnown738.Ok Try.prog:=CF.of2 noNG mixed (l:=[]) .nil 3000 (by kernel_rfl)
def KKnown739:CF:=⟨125,[.agg ⟨[vI 3408488,vI 3410888]⟩],.agg ⟨[vI 1846,vI 1847]⟩⟩
theorem kKnown739:KKnown739.Ok Try.prog:=CF.of2 noNG mixed (l:=[]) .nil 3000 (by kernel_rfl)
def KKnown740:CF:=⟨116,[.agg ⟨[vJ 301,vJ 297,vI 0,vI 0,vJ 1821,vJ 1821]⟩],.agg ⟨[vI 1846,vI 1847]⟩⟩
theorem kKnown740:KKnown740.Ok Try.prog:=CF.of2 noNG mixed (l:=[KKnown739]) (.cons kKnown739 .nil) 3000 (by kernel_rfl)
def KKnown741:CF:=⟨91,[.agg ⟨[vJ 301,vJ 297,vI 0,vI 0,vJ 1821,vJ 1821]⟩,.func (.func 111) ⟨[]⟩ ⟨[]⟩,.agg ⟨[vI 0,vI 0,vI 0,vI 0,vI 0,vI 0]⟩],.agg ⟨[vI 0,vI 0,vI 0,vI 0,vI 0,vI 0]⟩⟩
theorem kKnown741:KKnown741.Ok Try.prog:=CF.of2 noNG mixed (l:=[]) .nil 3000 (by kernel_rfl)
def KKnown742:CF:=⟨112,[.agg ⟨[vJ 301,vJ 297,vI 0,vI 0,vJ 1821,vJ 1821]⟩,.func (.func 111) ⟨[]⟩ ⟨[]⟩,.agg ⟨[vI 0,vI 0]⟩],.agg ⟨[vI 0,vI 0,vI 0,vI 0,vI 0,vI 0]⟩⟩
theorem kKnown742:KKnown742.Ok Try.prog:=CF.of2 noNG mixed (l:=[KKnown741]) (.cons kKnown741 .nil) 3000 (by kernel_rfl)
def KKnown743:CF:=⟨99,[.agg wKnown5,.agg ⟨[vI 0,vI 0,vI 0,vI 10,vI 10,vI 0,vI 0,vI 0,vI 0,vI 0,vI 0,vI 0,vI 0]⟩,.agg wKnown58],.agg ⟨[vI 0,vI 0,vI 0,vI 0,vI 0,vI 0]⟩⟩
theorem kKnown743:KKnown743.Ok Try.prog:=CF.of2 noNG mixed (l:=[KKnown737,KKnown738,KKnown740,KKnown742,KKnown27]) (.cons kKnown737 (.cons kKnown738 (.cons kKnown740 (.cons kKnown742 (.cons kKnown27 .nil))))) 3000 (by kernel_rfl)
def KKnown744:CF:=⟨69,[.agg wKnown5,.agg ⟨[vI 0,vI 0,vI 0,vI 10,vI 10,vI 0,vI 0,vI 0,vI 0,vI 0,vI 0,vI 0,vI 0]⟩,.agg wKnown58],.agg ⟨[vI 0,vI 0,vI 0,vI 0,vJ 97,vJ 97]⟩⟩
theorem kKnown744:KKnown744.Ok Try.prog:=CF.of2 noNG mixed (l:=[KKnown40,KKnown41,KKnown77,KKnown743]) (.cons kKnown40 (.cons kKnown41 (.cons kKnown77 (.cons kKnown743 .nil)))) 3000 (by kernel_rfl)
def KKnown745:CF:=⟨91,[.agg ⟨[vJ 1,vI 2,vI 0,vI 0,vJ 1821,vJ 1821]⟩,.func (.func 105) ⟨[]⟩ ⟨[]⟩,.agg ⟨[vI 0,vI 0,vI 0,vI 0,vJ 97,vJ 97]⟩],.agg ⟨[vJ 1,vI 2,vI 0,vI 0,vJ 1919,vJ 1919]⟩⟩
theorem kKnown745:KKnown745.Ok Try.prog:=CF.of2 noNG mixed (l:=[]) .nil 3000 (by kernel_rfl)
def KKnown746:CF:=⟨91,[.agg ⟨[vJ 76,vI 77,vI 0,vI 0,vI 560,vI 560]⟩,.func (.func 105) ⟨[]⟩ ⟨[]⟩,.agg ⟨[vJ 1,vI 2,vI 0,vI 0,vJ 1919,vJ 1919]⟩],.agg ⟨[vJ 78,vI 79,vI 0,vI 0,vJ 1359,vJ 1359]⟩⟩
theorem kKnown746:KKnown746.Ok Try.prog:=CF.of2 noNG mixed (l:=[]) .nil 3000 (by kernel_rfl)
def KKnown747:CF:=⟨119,[.agg wKnown58,.agg ⟨[vI 0,vI 0,vI 0,vI 0,vJ 97,vJ 97]⟩],.agg wKnown59⟩
theorem kKnown747:KKnown747.Ok Try.prog:=CF.of2 noNG mixed (l:=[KKnown745,KKnown746]) (.cons kKnown745 (.cons kKnown746 .nil)) 3000 (by kernel_rfl)
def KKnown748:CF:=⟨86,[.agg ⟨[vJ 78,vI 79,vI 0,vI 0,vJ 1359,vJ 1359]⟩,vI 2000000000],vT⟩
theorem kKnown748:KKnown748.Ok Try.prog:=CF.of2 noNG mixed (l:=[]) .nil 3000 (by kernel_rfl)
def KKnown749:CF:=⟨86,[.agg ⟨[vJ 1,vI 2,vI 0,vI 0,vJ 1919,vJ 1919]⟩,vI 1000000],vT⟩
theorem kKnown749:KKnown749.Ok Try.prog:=CF.of2 noNG mixed (l:=[]) .nil 3000 (by kernel_rfl)
def KKnown750:CF:=⟨68,[.agg wKnown59],vF⟩
theorem kKnown750:KKnown750.Ok Try.prog:=CF.of2 noNG mixed (l:=[KKnown748,KKnown749]) (.cons kKnown748 (.cons kKnown749 .nil)) 3000 (by kernel_rfl)
def KKnown751:CF:=⟨58,[.agg ⟨[vJ 78,vI 79,vI 0,vI 0,vJ 1359,vJ 1359]⟩],.agg ⟨[vJ 78,vI 79,vI 0,vI 0]⟩⟩
theorem kKnown751:KKnown751.Ok Try.prog:=CF.of2 noNG mixed (l:=[]) .nil 3000 (by kernel_rfl)
def KKnown752:CF:=⟨77,[.agg wKnown3,vI 0],.tuple ⟨[.agg ⟨[vI 0,vJ 78,vI 79,vI 0,vI 0,vI 40,vI 40]⟩,vI 0]⟩⟩
theorem kKnown752:KKnown752.Ok Try.prog:=CF.of2 noNG mixed (l:=[KKnown13,KKnown537,KKnown540,KKnown541,KKnown549,KKnown552,KKnown555,KKnown556,KKnown50,KKnown564,KKnown53,KKnown55,KKnown567,KKnown58,KKnown570,KKnown60,KKnown571,KKnown579,KKnown68,KKnown582,KKnown71,KKnown585,KKnown74,KKnown586,KKnown76,KKnown594,KKnown85,KKnown597,KKnown88,KKnown600,KKnown601,KKnown91,KKnown93,KKnown609,KKnown612,KKnown101,KKnown615,KKnown104,KKnown616,KKnown624,KKnown627,KKnown118,KKnown630,KKnown120,KKnown631,KKnown639,KKnown128,KKnown642,KKnown131,KKnown645,KKnown134,KKnown646,KKnown136,KKnown654,KKnown144,KKnown657,KKnown147,KKnown660,KKnown661,KKnown150,KKnown152,KKnown669,KKnown160,KKnown672,KKnown163,KKnown675,KKnown676,KKnown166,KKnown168,KKnown684,KKnown687,KKnown176,KKnown690,KKnown179,KKnown691,KKnown182,KKnown184,KKnown699,KKnown702,KKnown192,KKnown705,KKnown706,KKnown195,KKnown198,KKnown200,KKnown714,KKnown717,KKnown208,KKnown720,KKnown721,KKnown211,KKnown214,KKnown216,KKnown729,KKnown732,KKnown735,KKnown224,KKnown736,KKnown227,KKnown230,KKnown232,KKnown744,KKnown747,KKnown750,KKnown751,KKnown240,KKnown243,KKnown246,KKnown248,KKnown256,KKnown259,KKnown262,KKnown264,KKnown272,KKnown275,KKnown278,KKnown280,KKnown288,KKnown291,KKnown294,KKnown296,KKnown304,KKnown307,KKnown310,KKnown312,KKnown320,KKnown323,KKnown326,KKnown328,KKnown336,KKnown339,KKnown342,KKnown344,KKnown352,KKnown355,KKnown358,KKnown360,KKnown368,KKnown371,KKnown374,KKnown376,KKnown384,KKnown387,KKnown390,KKnown392,KKnown400,KKnown403,KKnown406,KKnown408,KKnown416,KKnown419,KKnown422,KKnown424,KKnown432,KKnown435,KKnown438,KKnown440,KKnown448,KKnown451,KKnown454,KKnown456,KKnown464,KKnown467]) (.cons kKnown13 (.cons kKnown537 (.cons kKnown540 (.cons kKnown541 (.cons kKnown549 (.cons kKnown552 (.cons kKnown555 (.cons kKnown556 (.cons kKnown50 (.cons kKnown564 (.cons kKnown53 (.cons kKnown55 (.cons kKnown567 (.cons kKnown58 (.cons kKnown570 (.cons kKnown60 (.cons kKnown571 (.cons kKnown579 (.cons kKnown68 (.cons kKnown582 (.cons kKnown71 (.cons kKnown585 (.cons kKnown74 (.cons kKnown586 (.cons kKnown76 (.cons kKnown594 (.cons kKnown85 (.cons kKnown597 (.cons kKnown88 (.cons kKnown600 (.cons kKnown601 (.cons kKnown91 (.cons kKnown93 (.cons kKnown609 (.cons kKnown612 (.cons kKnown101 (.cons kKnown615 (.cons kKnown104 (.cons kKnown616 (.cons kKnown624 (.cons kKnown627 (.cons kKnown118 (.cons kKnown630 (.cons kKnown120 (.cons kKnown631 (.cons kKnown639 (.cons kKnown128 (.cons kKnown642 (.cons kKnown131 (.cons kKnown645 (.cons kKnown134 (.cons kKnown646 (.cons kKnown136 (.cons kKnown654 (.cons kKnown144 (.cons kKnown657 (.cons kKnown147 (.cons kKnown660 (.cons kKnown661 (.cons kKnown150 (.cons kKnown152 (.cons kKnown669 (.cons kKnown160 (.cons kKnown672 (.cons kKnown163 (.cons kKnown675 (.cons kKnown676 (.cons kKnown166 (.cons kKnown168 (.cons kKnown684 (.cons kKnown687 (.cons kKnown176 (.cons kKnown690 (.cons kKnown179 (.cons kKnown691 (.cons kKnown182 (.cons kKnown184 (.cons kKnown699 (.cons kKnown702 (.cons kKnown192 (.cons kKnown705 (.cons kKnown706 (.cons kKnown195 (.cons kKnown198 (.cons kKnown200 (.cons kKnown714 (.cons kKnown717 (.cons kKnown208 (.cons kKnown720 (.cons kKnown721 (.cons kKnown211 (.cons kKnown214 (.cons kKnown216 (.cons kKnown729 (.cons kKnown732 (.cons kKnown735 (.cons kKnown224 (.cons kKnown736 (.cons kKnown227 (.cons kKnown230 (.cons kKnown232 (.cons kKnown744 (.cons kKnown747 (.cons kKnown750 (.cons kKnown751 (.cons kKnown240 (.cons kKnown243 (.cons kKnown246 (.cons kKnown248 (.cons kKnown256 (.cons kKnown259 (.cons kKnown262 (.cons kKnown264 (.cons kKnown272 (.cons kKnown275 (.cons kKnown278 (.cons kKnown280 (.cons kKnown288 (.cons kKnown291 (.cons kKnown294 (.cons kKnown296 (.cons kKnown304 (.cons kKnown307 (.cons kKnown310 (.cons kKnown312 (.cons kKnown320 (.cons kKnown323 (.cons kKnown326 (.cons kKnown328 (.cons kKnown336 (.cons kKnown339 (.cons kKnown342 (.cons kKnown344 (.cons kKnown352 (.cons kKnown355 (.cons kKnown358 (.cons kKnown360 (.cons kKnown368 (.cons kKnown371 (.cons kKnown374 (.cons kKnown376 (.cons kKnown384 (.cons kKnown387 (.cons kKnown390 (.cons kKnown392 (.cons kKnown400 (.cons kKnown403 (.cons kKnown406 (.cons kKnown408 (.cons kKnown416 (.cons kKnown419 (.cons kKnown422 (.cons kKnown424 (.cons kKnown432 (.cons kKnown435 (.cons kKnown438 (.cons kKnown440 (.cons kKnown448 (.cons kKnown451 (.cons kKnown454 (.cons kKnown456 (.cons kKnown464 (.cons kKnown467 .nil))))))))))))))))))))))))))))))))))))))))))))))))))))))))))))))))))))))))))))))))))))))))))))))))))))))))))))))))))))))))))))))))))))))))))))))))))))))))))))))))))) 3000 (by kernel_rfl)
def KKnown753:CF:=⟨33,[.agg wKnown1,.agg ⟨[vI 0,vI 0,vI 10000]⟩,lstV ⟨[vI 0,vI 100000,vI 300,vI 300,vI 0,vI 0]⟩ 0 1 6],.tuple ⟨[lstV ⟨[vI 0,vJ 78,vI 79,vI 0,vI 0,vI 40,vI 40]⟩ 0 1 7,vI 0]⟩⟩
theorem kKnown753:KKnown753.Ok Try.prog:=CF.of2 noNG mixed (l:=[KKnown752,KKnown10]) (.cons kKnown752 (.cons kKnown10 .nil)) 3000 (by kernel_rfl)
def KKnown754:CF:=⟨86,[.agg ⟨[vI 0,vI 0,vI 0,vI 0,vI 10000,vI 10000]⟩,vI 1000000],vT⟩
theorem kKnown754:KKnown754.Ok Try.prog:=CF.of2 noNG mixed (l:=[]) .nil 3000 (by kernel_rfl)
def KKnown755:CF:=⟨68,[.agg wKnown60],vF⟩
theorem kKnown755:KKnown755.Ok Try.prog:=CF.of2 noNG mixed (l:=[KKnown754,KKnown509]) (.cons kKnown754 (.cons kKnown509 .nil)) 3000 (by kernel_rfl)
def KKnown756:CF:=⟨91,[.agg ⟨[vI 0,vI 0,vI 0,vI 0,vI 10000,vI 10000]⟩,.func (.func 98) ⟨[]⟩ ⟨[]⟩,.agg ⟨[vI 300,vI 300,vI 0,vI 0,vI 0,vI 0]⟩],.agg ⟨[vJ 299,vJ 299,vI 0,vI 0,vI 10000,vI 10000]⟩⟩
theorem kKnown756:KKnown756.Ok Try.prog:=CF.of2 noNG mixed (l:=[]) .nil 3000 (by kernel_rfl)
def KKnown757:CF:=⟨125,[.agg ⟨[vI 100090000,vI 100090000]⟩],.agg ⟨[vI 10004,vI 10005]⟩⟩
theorem kKnown757:KKnown757.Ok Try.prog:=CF.of2 noNG mixed (l:=[]) .nil 3000 (by kernel_rfl)
def KKnown758:CF:=⟨116,[.agg ⟨[vJ 299,vJ 299,vI 0,vI 0,vI 10000,vI 10000]⟩],.agg ⟨[vI 10004,vI 10005]⟩⟩
theorem kKnown758:KKnown758.Ok Try.prog:=CF.of2 noNG mixed (l:=[KKnown757]) (.cons kKnown757 .nil) 3000 (by kernel_rfl)
def KKnown759:CF:=⟨91,[.agg ⟨[vJ 299,vJ 299,vI 0,vI 0,vI 10000,vI 10000]⟩,.func (.func 111) ⟨[]⟩ ⟨[]⟩,.agg wKnown61],.agg wKnown62⟩
theorem kKnown759:KKnown759.Ok Try.prog:=CF.of2 noNG mixed (l:=[]) .nil 3000 (by kernel_rfl)
def KKnown760:CF:=⟨112,[.agg ⟨[vJ 299,vJ 299,vI 0,vI 0,vI 10000,vI 10000]⟩,.func (.func 111) ⟨[]⟩ ⟨[]⟩,.agg ⟨[vI 100040000,vI 100050000]⟩],.agg wKnown62⟩
theorem kKnown760:KKnown760.Ok Try.prog:=CF.of2 noNG mixed (l:=[KKnown759]) (.cons kKnown759 .nil) 3000 (by kernel_rfl)
def KKnown761:CF:=⟨91,[.agg wKnown62,.func (.func 113) ⟨[]⟩ ⟨[]⟩,.agg wKnown4],.agg ⟨[vJ 3,vJ 2,vI 0,vI 0,vI 100,vI 101]⟩⟩
theorem kKnown761:KKnown761.Ok Try.prog:=CF.of2 noNG mixed (l:=[]) .nil 3000 (by kernel_rfl)
def KKnown762:CF:=⟨112,[.agg wKnown62,.func (.func 113) ⟨[]⟩ ⟨[]⟩,.agg ⟨[vI 10000000000,vI 10000000000]⟩],.agg ⟨[vJ 3,vJ 2,vI 0,vI 0,vI 100,vI 101]⟩⟩
theorem kKnown762:KKnown762.Ok Try.prog:=CF.of2 noNG mixed (l:=[KKnown761]) (.cons kKnown761 .nil) 3000 (by kernel_rfl)
def KKnown763:CF:=⟨99,[.agg wKnown41,.agg wKnown43,.agg wKnown60],.agg ⟨[vJ 3,vJ 2,vI 0,vI 0,vI 100,vI 101]⟩⟩
theorem kKnown763:KKnown763.Ok Try.prog:=CF.of2 noNG mixed (l:=[KKnown513,KKnown756,KKnown758,KKnown760,KKnown762]) (.cons kKnown513 (.cons kKnown756 (.cons kKnown758 (.cons kKnown760 (.cons kKnown762 .nil))))) 3000 (by kernel_rfl)
def KKnown764:CF:=⟨91,[.agg ⟨[vI 0,vI 0,vI 0,vI 0,vI 0,vI 0]⟩,.func (.func 98) ⟨[]⟩ ⟨[]⟩,.agg ⟨[vJ 3,vJ 2,vI 0,vI 0,vI 100,vI 101]⟩],.agg ⟨[vI 3,vI 4,vI 0,vI 0,vJ 100,vJ 99]⟩⟩
theorem kKnown764:KKnown764.Ok Try.prog:=CF.of2 noNG mixed (l:=[]) .nil 3000 (by kernel_rfl)
def KKnown765:CF:=⟨91,[.agg ⟨[vI 3,vI 4,vI 0,vI 0,vJ 100,vJ 99]⟩,.func (.func 98) ⟨[]⟩ ⟨[]⟩,.agg ⟨[vI 0,vI 0,vI 0,vI 0,vI 98,vI 98]⟩],.agg ⟨[vI 3,vI 4,vI 0,vI 0,vJ 198,vJ 197]⟩⟩
theorem kKnown765:KKnown765.Ok Try.prog:=CF.of2 noNG mixed (l:=[]) .nil 3000 (by kernel_rfl)
def KKnown766:CF:=⟨69,[.agg wKnown41,.agg wKnown43,.agg wKnown60],.agg ⟨[vI 3,vI 4,vI 0,vI 0,vJ 198,vJ 197]⟩⟩
theorem kKnown766:KKnown766.Ok Try.prog:=CF.of2 noNG mixed (l:=[KKnown512,KKnown763,KKnown764,KKnown765]) (.cons kKnown512 (.cons kKnown763 (.cons kKnown764 (.cons kKnown765 .nil)))) 3000 (by kernel_rfl)
def KKnown767:CF:=⟨25,[.agg wKnown40,.agg ⟨[vI 0,vI 0,vI 10000]⟩,lstV ⟨[vI 0,vI 100000,vI 300,vI 300,vI 0,vI 0]⟩ 0 1 6,vI 2,.agg wKnown60],.tuple ⟨[.agg ⟨[vI 3,vI 4,vI 0,vI 0,vJ 198,vJ 197]⟩,vI 0]⟩⟩
theorem kKnown767:KKnown767.Ok Try.prog:=CF.of2 noNG mixed (l:=[KKnown755,KKnown508,KKnown766]) (.cons kKnown755 (.cons kKnown508 (.cons kKnown766 .nil))) 3000 (by kernel_rfl)
def KKnown768:CF:=⟨15,[.agg ⟨[vI 0,vI 0,vI 5000]⟩],vI 2⟩
theorem kKnown768:KKnown768.Ok Try.prog:=CF.of2 noNG mixed (l:=[]) .nil 3000 (by kernel_rfl)
def KKnown769:CF:=⟨27,[.agg wKnown1,.agg ⟨[vI 0,vI 0,vI 10000]⟩,lstV ⟨[vI 0,vI 100000,vI 300,vI 300,vI 0,vI 0]⟩ 0 1 6,vJ 0],.tuple ⟨[.slice none 0 0,vI 7]⟩⟩
theorem kKnown769:KKnown769.Ok Try.prog:=CF.of2 noNG mixed (l:=[KKnown10]) (.cons kKnown10 .nil) 3000 (by kernel_rfl)
def KKnown770:CF:=⟨26,[vJ 78,vI 79],.agg ⟨[vJ 78,vI 79]⟩⟩
theorem kKnown770:KKnown770.Ok Try.prog:=CF.of2 noNG mixed (l:=[]) .nil 3000 (by kernel_rfl)
def KKnown771:CF:=⟨26,[vI 40,vI 40],.agg ⟨[vI 40,vI 40]⟩⟩
theorem kKnown771:KKnown771.Ok Try.prog:=CF.of2 noNG mixed (l:=[]) .nil 3000 (by kernel_rfl)
def KKnown772:CF:=⟨26,[vI 3,vI 4],.agg ⟨[vI 3,vI 4]⟩⟩
theorem kKnown772:KKnown772.Ok Try.prog:=CF.of2 noNG mixed (l:=[]) .nil 3000 (by kernel_rfl)
def KKnown773:CF:=⟨26,[vJ 198,vJ 197],.agg ⟨[vJ 198,vJ 197]⟩⟩
theorem kKnown773:KKnown773.Ok Try.prog:=CF.of2 noNG mixed (l:=[]) .nil 3000 (by kernel_rfl)
def KKnown774:CF:=⟨17,[],vT⟩
theorem kKnown774:KKnown774.Ok Try.prog:=CF.of2 noNG mixed (l:=[KKnown1,KKnown2,KKnown0,KKnown768,KKnown769,KKnown770,KKnown771,KKnown772,KKnown773,KKnown753,KKnown501,KKnown502,KKnown504,KKnown767]) (.cons kKnown1 (.cons kKnown2 (.cons kKnown0 (.cons kKnown768 (.cons kKnown769 (.cons kKnown770 (.cons kKnown771 (.cons kKnown772 (.cons kKnown773 (.cons kKnown753 (.cons kKnown501 (.cons kKnown502 (.cons kKnown504 (.cons kKnown767 .nil)))))))))))))) 3000 (by kernel_rfl)
def KKnown775:CF:=⟨5,[],vT⟩
theorem kKnown775:KKnown775.Ok Try.prog:=CF.of2 noNG mixed (l:=[KKnown473,KKnown44,KKnown45,KKnown474,KKnown10,KKnown13,KKnown31,KKnown50,KKnown478,KKnown503,KKnown109,KKnown112,KKnown495,KKnown0,KKnown1,KKnown2,KKnown774,KKnown525,KKnown526,KKnown528,KKnown529,KKnown533,KKnown534,KKnown535,KKnown32,KKnown43,KKnown46,KKnown60,KKnown470,KKnown471,KKnown472,KKnown477,KKnown481,KKnown484,KKnown504,KKnown106,KKnown107,KKnown108,KKnown110,KKnown111,KKnown113,KKnown491,KKnown494,KKnown498,KKnown500,KKnown501,KKnown502]) (.cons kKnown473 (.cons kKnown44 (.cons kKnown45 (.cons kKnown474 (.cons kKnown10 (.cons kKnown13 (.cons kKnown31 (.cons kKnown50 (.cons kKnown478 (.cons kKnown503 (.cons kKnown109 (.cons kKnown112 (.cons kKnown495 (.cons kKnown0 (.cons kKnown1 (.cons kKnown2 (.cons kKnown774 (.cons kKnown525 (.cons kKnown526 (.cons kKnown528 (.cons kKnown529 (.cons kKnown533 (.cons kKnown534 (.cons kKnown535 (.cons kKnown32 (.cons kKnown43 (.cons kKnown46 (.cons kKnown60 (.cons kKnown470 (.cons kKnown471 (.cons kKnown472 (.cons kKnown477 (.cons kKnown481 (.cons kKnown484 (.cons kKnown504 (.cons kKnown106 (.cons kKnown107 (.cons kKnown108 (.cons kKnown110 (.cons kKnown111 (.cons kKnown113 (.cons kKnown491 (.cons kKnown494 (.cons kKnown498 (.cons kKnown500 (.cons kKnown501 (.cons kKnown502 .nil))))))))))))))))))))))))))))))))))))))))))))))) 3000 (by kernel_rfl)
end
end Go.Proofs.Ytnmjibcolnlkjaa
namespace Go.Proofs.Ytnmjibcolnlkjaa
open Go.ChangeShapes Go.WideShapes Go.ChangeAt Go.RowKit Go.Gi
set_option maxRecDepth 100000
theorem own:ownKnob Try.prog.godebug=none:=by kernel_rfl
theorem law5:Fact Try.prog (.call 5 ⟨[]⟩ ⟨[],0,[]⟩) (.ret (.bool true) ⟨[],0,[]⟩):=kKnown775 _
theorem lifted5 (os:Os)(started:os.Started)(H:Type)(enc:TypeId×Value→H) :
    ReturnsInHanded {} Try.checked os 5 .any (Rows.flightKnownSpec.pre6 enc Try.prog Try.f5 Rows.flightKnownRow.domain false) (Rows.flightKnownSpec.post enc Try.prog Try.f5 false true false false):=by
  refine returnsInHanded_of_change (C:=Try.checked) own started (by kernel_rfl) Try.func5
    (ChangeSpec.witness6 (enc:=enc) (C:=Try.checked) false ⟨#[],#[],[]⟩ 20 (by kernel_rfl) (by kernel_rfl) (by kernel_rfl) (by kernel_rfl)) ?_
  intro W base args ds gs before hval0 hW hcnd _
  have hW':=hW
  obtain ⟨p,q,hA0,hV,rfl,hfz,hnd⟩:=hW
  have hA:DataW.TrodAll enc Try.prog W 0 (fun _=>true) true Try.f5.params.toList args.toList ds p:=hA0
  rw [Try.params5]at hA
  obtain ⟨hargs,rfl,rfl⟩:=trodAll_nil hA
  obtain rfl:args=#[]:=by cases args;simp_all
  obtain ⟨rfl,rfl⟩:=trodVars_none hV
  refine (calls_frozen law5 rfl (VRs.nil _)).mono fun e W' ⟨he,bel⟩=>?_
  subst he
  exact ⟨_,rfl,_,_,_,[],_,[],hW',trodAll_mk1 (shut_bool Try.underlying4 _),trodAll_mk0,rfl,bel.frame _,fun h=>by cases h⟩
theorem over5:Rows.flightKnownRow.holds Try.pinned (OpenSpec.ofChange Rows.flightKnownSpec) :=
  OpenClaim.holds_of_wide 5 Try.f5 rfl rfl rfl rfl rfl rfl rfl ⟨rfl,rfl,rfl,rfl,rfl⟩ rfl rfl rfl rfl rfl (by kernel_rfl) Try.func5 (by kernel_rfl)
    (of_decide_eq_true (by kernel_rfl)) (by unfold Func.isWrapper;first | (rw [if_pos (by decide +kernel)];kernel_rfl) | (rw [if_neg (by decide +kernel)];exact ⟨rfl,rfl⟩))
    (fun os started H enc _=>lifted5 os started H enc)
theorem flightKnownProved:Rows.FlightKnownSaid:=over5
end Go.Proofs.Ytnmjibcolnlkjaa
