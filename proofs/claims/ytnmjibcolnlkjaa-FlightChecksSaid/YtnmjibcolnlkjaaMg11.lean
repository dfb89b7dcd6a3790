/- Part 11 of the texts below the claim. Conditions: none. -/
import Derived.Test.YtnmjibcolnlkjaaMg10
set_option linter.unusedVariables false
set_option linter.unusedSimpArgs false
namespace Go.Proofs.Ytnmjibcolnlkjaa
open Go.Gi Go.RowKit
noncomputable section
set_option maxRecDepth 100000
set_option maxHeartbeats 4000000
def KKnown315:CF:=⟨125,[.agg ⟨[vI 275428,vI 277828]⟩],.agg ⟨[vI 524,vI 528]⟩⟩
theorem kKnown315:KKnown315.Ok Try.prog:=CF.of2 noNG mixed (l:=[]) .nil 3000 (by kernel_rfl)
def KKnown316:CF:=⟨116,[.agg ⟨[vJ 301,vJ 297,vI 0,vI 0,vI 432,vI 432]⟩],.agg ⟨[vI 524,vI 528]⟩⟩
theorem kKnown316:KKnown316.Ok Try.prog:=CF.of2 noNG mixed (l:=[KKnown315]) (.cons kKnown315 .nil) 3000 (by kernel_rfl)
def KKnown317:CF:=⟨91,[.agg ⟨[vJ 301,vJ 297,vI 0,vI 0,vI 432,vI 432]⟩,.func (.func 111) ⟨[]⟩ ⟨[]⟩,.agg ⟨[vI 0,vI 0,vI 0,vI 0,vI 0,vI 0]⟩],.agg ⟨[vI 0,vI 0,vI 0,vI 0,vI 0,vI 0]⟩⟩
theorem kKnown317:KKnown317.Ok Try.prog:=CF.of2 noNG mixed (l:=[]) .nil 3000 (by kernel_rfl)
def KKnown318:CF:=⟨112,[.agg ⟨[vJ 301,vJ 297,vI 0,vI 0,vI 432,vI 432]⟩,.func (.func 111) ⟨[]⟩ ⟨[]⟩,.agg ⟨[vI 0,vI 0]⟩],.agg ⟨[vI 0,vI 0,vI 0,vI 0,vI 0,vI 0]⟩⟩
theorem kKnown318:KKnown318.Ok Try.prog:=CF.of2 noNG mixed (l:=[KKnown317]) (.cons kKnown317 .nil) 3000 (by kernel_rfl)
def KKnown319:CF:=⟨99,[.agg wKnown5,.agg ⟨[vI 0,vI 0,vI 0,vI 10,vI 10,vI 0,vI 0,vI 0,vI 0,vI 0,vI 0,vI 0,vI 0]⟩,.agg wKnown24],.agg ⟨[vI 0,vI 0,vI 0,vI 0,vI 0,vI 0]⟩⟩
theorem kKnown319:KKnown319.Ok Try.prog:=CF.of2 noNG mixed (l:=[KKnown313,KKnown314,KKnown27,KKnown316,KKnown318]) (.cons kKnown313 (.cons kKnown314 (.cons kKnown27 (.cons kKnown316 (.cons kKnown318 .nil))))) 3000 (by kernel_rfl)
def KKnown320:CF:=⟨69,[.agg wKnown5,.agg ⟨[vI 0,vI 0,vI 0,vI 10,vI 10,vI 0,vI 0,vI 0,vI 0,vI 0,vI 0,vI 0,vI 0]⟩,.agg wKnown24],.agg ⟨[vI 0,vI 0,vI 0,vI 0,vJ 97,vJ 97]⟩⟩
theorem kKnown320:KKnown320.Ok Try.prog:=CF.of2 noNG mixed (l:=[KKnown40,KKnown41,KKnown77,KKnown319]) (.cons kKnown40 (.cons kKnown41 (.cons kKnown77 (.cons kKnown319 .nil)))) 3000 (by kernel_rfl)
def KKnown321:CF:=⟨91,[.agg ⟨[vJ 1,vI 2,vI 0,vI 0,vI 432,vI 432]⟩,.func (.func 105) ⟨[]⟩ ⟨[]⟩,.agg ⟨[vI 0,vI 0,vI 0,vI 0,vJ 97,vJ 97]⟩],.agg ⟨[vJ 1,vI 2,vI 0,vI 0,vI 334,vI 334]⟩⟩
theorem kKnown321:KKnown321.Ok Try.prog:=CF.of2 noNG mixed (l:=[]) .nil 3000 (by kernel_rfl)
def KKnown322:CF:=⟨91,[.agg ⟨[vJ 30,vI 31,vI 0,vI 0,vI 17672,vI 17672]⟩,.func (.func 105) ⟨[]⟩ ⟨[]⟩,.agg ⟨[vJ 1,vI 2,vI 0,vI 0,vI 334,vI 334]⟩],.agg ⟨[vJ 32,vI 33,vI 0,vI 0,vI 18006,vI 18006]⟩⟩
theorem kKnown322:KKnown322.Ok Try.prog:=CF.of2 noNG mixed (l:=[]) .nil 3000 (by kernel_rfl)
def KKnown323:CF:=⟨119,[.agg wKnown24,.agg ⟨[vI 0,vI 0,vI 0,vI 0,vJ 97,vJ 97]⟩],.agg wKnown25⟩
theorem kKnown323:KKnown323.Ok Try.prog:=CF.of2 noNG mixed (l:=[KKnown321,KKnown322]) (.cons kKnown321 (.cons kKnown322 .nil)) 3000 (by kernel_rfl)
def KKnown324:CF:=⟨86,[.agg ⟨[vJ 32,vI 33,vI 0,vI 0,vI 18006,vI 18006]⟩,vI 2000000000],vT⟩
theorem kKnown324:KKnown324.Ok Try.prog:=CF.of2 noNG mixed (l:=[]) .nil 3000 (by kernel_rfl)
def KKnown325:CF:=⟨86,[.agg ⟨[vJ 1,vI 2,vI 0,vI 0,vI 334,vI 334]⟩,vI 1000000],vT⟩
theorem kKnown325:KKnown325.Ok Try.prog:=CF.of2 noNG mixed (l:=[]) .nil 3000 (by kernel_rfl)
def KKnown326:CF:=⟨68,[.agg wKnown25],vF⟩
theorem kKnown326:KKnown326.Ok Try.prog:=CF.of2 noNG mixed (l:=[KKnown324,KKnown325]) (.cons kKnown324 (.cons kKnown325 .nil)) 3000 (by kernel_rfl)
def KKnown328:CF:=⟨70,[lstV wKnown0 0 1 13,vI 17],.agg ⟨[vI 0,vI 0,vI 0,vI 10,vI 10,vI 0,vI 0,vI 0,vI 0,vI 0,vI 0,vI 0,vI 0]⟩⟩
theorem kKnown328:KKnown328.Ok Try.prog:=CF.of2 noNG mixed (l:=[]) .nil 3000 (by kernel_rfl)
def KKnown329:CF:=⟨55,[lstV wKnown2 0 2 7,.agg ⟨[vI 18006,vI 18006]⟩,.func (.func 57) ⟨[]⟩ ⟨[]⟩],.agg ⟨[vI 300,vI 300,vI 0,vI 0,vI 0,vI 0]⟩⟩
theorem kKnown329:KKnown329.Ok Try.prog:=CF.of2 noNG mixed (l:=[]) .nil 3000 (by kernel_rfl)
def KKnown330:CF:=⟨91,[.agg ⟨[vJ 1,vI 2,vI 0,vI 0,vI 334,vI 334]⟩,.func (.func 98) ⟨[]⟩ ⟨[]⟩,.agg ⟨[vI 300,vI 300,vI 0,vI 0,vI 0,vI 0]⟩],.agg ⟨[vJ 301,vJ 297,vI 0,vI 0,vI 334,vI 334]⟩⟩
theorem kKnown330:KKnown330.Ok Try.prog:=CF.of2 noNG mixed (l:=[]) .nil 3000 (by kernel_rfl)
def KKnown331:CF:=⟨125,[.agg ⟨[vI 200360,vI 202760]⟩],.agg ⟨[vI 447,vI 451]⟩⟩
theorem kKnown331:KKnown331.Ok Try.prog:=CF.of2 noNG mixed (l:=[]) .nil 3000 (by kernel_rfl)
def KKnown332:CF:=⟨116,[.agg ⟨[vJ 301,vJ 297,vI 0,vI 0,vI 334,vI 334]⟩],.agg ⟨[vI 447,vI 451]⟩⟩
theorem kKnown332:KKnown332.Ok Try.prog:=CF.of2 noNG mixed (l:=[KKnown331]) (.cons kKnown331 .nil) 3000 (by kernel_rfl)
def KKnown333:CF:=⟨91,[.agg ⟨[vJ 301,vJ 297,vI 0,vI 0,vI 334,vI 334]⟩,.func (.func 111) ⟨[]⟩ ⟨[]⟩,.agg ⟨[vI 0,vI 0,vI 0,vI 0,vI 0,vI 0]⟩],.agg ⟨[vI 0,vI 0,vI 0,vI 0,vI 0,vI 0]⟩⟩
theorem kKnown333:KKnown333.Ok Try.prog:=CF.of2 noNG mixed (l:=[]) .nil 3000 (by kernel_rfl)
def KKnown334:CF:=⟨112,[.agg ⟨[vJ 301,vJ 297,vI 0,vI 0,vI 334,vI 334]⟩,.func (.func 111) ⟨[]⟩ ⟨[]⟩,.agg ⟨[vI 0,vI 0]⟩],.agg ⟨[vI 0,vI 0,vI 0,vI 0,vI 0,vI 0]⟩⟩
theorem kKnown334:KKnown334.Ok Try.prog:=CF.of2 noNG mixed (l:=[KKnown333]) (.cons kKnown333 .nil) 3000 (by kernel_rfl)
def KKnown335:CF:=⟨99,[.agg wKnown5,.agg ⟨[vI 0,vI 0,vI 0,vI 10,vI 10,vI 0,vI 0,vI 0,vI 0,vI 0,vI 0,vI 0,vI 0]⟩,.agg wKnown25],.agg ⟨[vI 0,vI 0,vI 0,vI 0,vI 0,vI 0]⟩⟩
theorem kKnown335:KKnown335.Ok Try.prog:=CF.of2 noNG mixed (l:=[KKnown329,KKnown330,KKnown332,KKnown334,KKnown27]) (.cons kKnown329 (.cons kKnown330 (.cons kKnown332 (.cons kKnown334 (.cons kKnown27 .nil))))) 3000 (by kernel_rfl)
def KKnown336:CF:=⟨69,[.agg wKnown5,.agg ⟨[vI 0,vI 0,vI 0,vI 10,vI 10,vI 0,vI 0,vI 0,vI 0,vI 0,vI 0,vI 0,vI 0]⟩,.agg wKnown25],.agg ⟨[vI 0,vI 0,vI 0,vI 0,vJ 97,vJ 97]⟩⟩
theorem kKnown336:KKnown336.Ok Try.prog:=CF.of2 noNG mixed (l:=[KKnown40,KKnown41,KKnown77,KKnown335]) (.cons kKnown40 (.cons kKnown41 (.cons kKnown77 (.cons kKnown335 .nil)))) 3000 (by kernel_rfl)
def KKnown337:CF:=⟨91,[.agg ⟨[vJ 1,vI 2,vI 0,vI 0,vI 334,vI 334]⟩,.func (.func 105) ⟨[]⟩ ⟨[]⟩,.agg ⟨[vI 0,vI 0,vI 0,vI 0,vJ 97,vJ 97]⟩],.agg ⟨[vJ 1,vI 2,vI 0,vI 0,vI 236,vI 236]⟩⟩
theorem kKnown337:KKnown337.Ok Try.prog:=CF.of2 noNG mixed (l:=[]) .nil 3000 (by kernel_rfl)
def KKnown338:CF:=⟨91,[.agg ⟨[vJ 32,vI 33,vI 0,vI 0,vI 18006,vI 18006]⟩,.func (.func 105) ⟨[]⟩ ⟨[]⟩,.agg ⟨[vJ 1,vI 2,vI 0,vI 0,vI 236,vI 236]⟩],.agg ⟨[vJ 34,vI 35,vI 0,vI 0,vI 18242,vI 18242]⟩⟩
theorem kKnown338:KKnown338.Ok Try.prog:=CF.of2 noNG mixed (l:=[]) .nil 3000 (by kernel_rfl)
def KKnown339:CF:=⟨119,[.agg wKnown25,.agg ⟨[vI 0,vI 0,vI 0,vI 0,vJ 97,vJ 97]⟩],.agg wKnown26⟩
theorem kKnown339:KKnown339.Ok Try.prog:=CF.of2 noNG mixed (l:=[KKnown337,KKnown338]) (.cons kKnown337 (.cons kKnown338 .nil)) 3000 (by kernel_rfl)
def KKnown340:CF:=⟨86,[.agg ⟨[vJ 34,vI 35,vI 0,vI 0,vI 18242,vI 18242]⟩,vI 2000000000],vT⟩
theorem kKnown340:KKnown340.Ok Try.prog:=CF.of2 noNG mixed (l:=[]) .nil 3000 (by kernel_rfl)
def KKnown341:CF:=⟨86,[.agg ⟨[vJ 1,vI 2,vI 0,vI 0,vI 236,vI 236]⟩,vI 1000000],vT⟩
theorem kKnown341:KKnown341.Ok Try.prog:=CF.of2 noNG mixed (l:=[]) .nil 3000 (by kernel_rfl)
def KKnown342:CF:=⟨68,[.agg wKnown26],vF⟩
theorem kKnown342:KKnown342.Ok Try.prog:=CF.of2 noNG mixed (l:=[KKnown340,KKnown341]) (.cons kKnown340 (.cons kKnown341 .nil)) 3000 (by kernel_rfl)
def KKnown344:CF:=⟨70,[lstV wKnown0 0 1 13,vI 18],.agg ⟨[vI 0,vI 0,vI 0,vI 10,vI 10,vI 0,vI 0,vI 0,vI 0,vI 0,vI 0,vI 0,vI 0]⟩⟩
theorem kKnown344:KKnown344.Ok Try.prog:=CF.of2 noNG mixed (l:=[]) .nil 3000 (by kernel_rfl)
def KKnown345:CF:=⟨55,[lstV wKnown2 0 2 7,.agg ⟨[vI 18242,vI 18242]⟩,.func (.func 57) ⟨[]⟩ ⟨[]⟩],.agg ⟨[vI 300,vI 300,vI 0,vI 0,vI 0,vI 0]⟩⟩
theorem kKnown345:KKnown345.Ok Try.prog:=CF.of2 noNG mixed (l:=[]) .nil 3000 (by kernel_rfl)
def KKnown346:CF:=⟨91,[.agg ⟨[vJ 1,vI 2,vI 0,vI 0,vI 236,vI 236]⟩,.func (.func 98) ⟨[]⟩ ⟨[]⟩,.agg ⟨[vI 300,vI 300,vI 0,vI 0,vI 0,vI 0]⟩],.agg ⟨[vJ 301,vJ 297,vI 0,vI 0,vI 236,vI 236]⟩⟩
theorem kKnown346:KKnown346.Ok Try.prog:=CF.of2 noNG mixed (l:=[]) .nil 3000 (by kernel_rfl)
def KKnown347:CF:=⟨125,[.agg ⟨[vI 144500,vI 146900]⟩],.agg ⟨[vI 380,vI 384]⟩⟩
theorem kKnown347:KKnown347.Ok Try.prog:=CF.of2 noNG mixed (l:=[]) .nil 3000 (by kernel_rfl)
def KKnown348:CF:=⟨116,[.agg ⟨[vJ 301,vJ 297,vI 0,vI 0,vI 236,vI 236]⟩],.agg ⟨[vI 380,vI 384]⟩⟩
theorem kKnown348:KKnown348.Ok Try.prog:=CF.of2 noNG mixed (l:=[KKnown347]) (.cons kKnown347 .nil) 3000 (by kernel_rfl)
def KKnown349:CF:=⟨91,[.agg ⟨[vJ 301,vJ 297,vI 0,vI 0,vI 236,vI 236]⟩,.func (.func 111) ⟨[]⟩ ⟨[]⟩,.agg ⟨[vI 0,vI 0,vI 0,vI 0,vI 0,vI 0]⟩],.agg ⟨[vI 0,vI 0,vI 0,vI 0,vI 0,vI 0]⟩⟩
theorem kKnown349:KKnown349.Ok Try.prog:=CF.of2 noNG mixed (l:=[]) .nil 3000 (by kernel_rfl)
def KKnown350:CF:=⟨112,[.agg ⟨[vJ 301,vJ 297,vI 0,vI 0,vI 236,vI 236]⟩,.func (.func 111) ⟨[]⟩ ⟨[]⟩,.agg ⟨[vI 0,vI 0]⟩],.agg ⟨[vI 0,vI 0,vI 0,vI 0,vI 0,vI 0]⟩⟩
theorem kKnown350:KKnown350.Ok Try.prog:=CF.of2 noNG mixed (l:=[KKnown349]) (.cons kKnown349 .nil) 3000 (by kernel_rfl)
def KKnown351:CF:=⟨99,[.agg wKnown5,.agg ⟨[vI 0,vI 0,vI 0,vI 10,vI 10,vI 0,vI 0,vI 0,vI 0,vI 0,vI 0,vI 0,vI 0]⟩,.agg wKnown26],.agg ⟨[vI 0,vI 0,vI 0,vI 0,vI 0,vI 0]⟩⟩
theorem kKnown351:KKnown351.Ok Try.prog:=CF.of2 noNG mixed (l:=[KKnown345,KKnown346,KKnown27,KKnown348,KKnown350]) (.cons kKnown345 (.cons kKnown346 (.cons kKnown27 (.cons kKnown348 (.cons kKnown350 .nil))))) 3000 (by kernel_rfl)
def KKnown352:CF:=⟨69,[.agg wKnown5,.agg ⟨[vI 0,vI 0,vI 0,vI 10,vI 10,vI 0,vI 0,vI 0,vI 0,vI 0,vI 0,vI 0,vI 0]⟩,.agg wKnown26],.agg ⟨[vI 0,vI 0,vI 0,vI 0,vJ 97,vJ 97]⟩⟩
theorem kKnown352:KKnown352.Ok Try.prog:=CF.of2 noNG mixed (l:=[KKnown40,KKnown41,KKnown77,KKnown351]) (.cons kKnown40 (.cons kKnown41 (.cons kKnown77 (.cons kKnown351 .nil)))) 3000 (by kernel_rfl)
def KKnown353:CF:=⟨91,[.agg ⟨[vJ 1,vI 2,vI 0,vI 0,vI 236,vI 236]⟩,.func (.func 105) ⟨[]⟩ ⟨[]⟩,.agg ⟨[vI 0,vI 0,vI 0,vI 0,vJ 97,vJ 97]⟩],.agg ⟨[vJ 1,vI 2,vI 0,vI 0,vI 138,vI 138]⟩⟩
theorem kKnown353:KKnown353.Ok Try.prog:=CF.of2 noNG mixed (l:=[]) .nil 3000 (by kernel_rfl)
def KKnown354:CF:=⟨91,[.agg ⟨[vJ 34,vI 35,vI 0,vI 0,vI 18242,vI 18242]⟩,.func (.func 105) ⟨[]⟩ ⟨[]⟩,.agg ⟨[vJ 1,vI 2,vI 0,vI 0,vI 138,vI 138]⟩],.agg ⟨[vJ 36,vI 37,vI 0,vI 0,vI 18380,vI 18380]⟩⟩
theorem kKnown354:KKnown354.Ok Try.prog:=CF.of2 noNG mixed (l:=[]) .nil 3000 (by kernel_rfl)
def KKnown355:CF:=⟨119,[.agg wKnown26,.agg ⟨[vI 0,vI 0,vI 0,vI 0,vJ 97,vJ 97]⟩],.agg wKnown27⟩
theorem kKnown355:KKnown355.Ok Try.prog:=CF.of2 noNG mixed (l:=[KKnown353,KKnown354]) (.cons kKnown353 (.cons kKnown354 .nil)) 3000 (by kernel_rfl)
def KKnown356:CF:=⟨86,[.agg ⟨[vJ 36,vI 37,vI 0,vI 0,vI 18380,vI 18380]⟩,vI 2000000000],vT⟩
theorem kKnown356:KKnown356.Ok Try.prog:=CF.of2 noNG mixed (l:=[]) .nil 3000 (by kernel_rfl)
def KKnown357:CF:=⟨86,[.agg ⟨[vJ 1,vI 2,vI 0,vI 0,vI 138,vI 138]⟩,vI 1000000],vT⟩
theorem kKnown357:KKnown357.Ok Try.prog:=CF.of2 noNG mixed (l:=[]) .nil 3000 (by kernel_rfl)
def KKnown358:CF:=⟨68,[.agg wKnown27],vF⟩
theorem kKnown358:KKnown358.Ok Try.prog:=CF.of2 noNG mixed (l:=[KKnown356,KKnown357]) (.cons kKnown356 (.cons kKnown357 .nil)) 3000 (by kernel_rfl)
def KKnown360:CF:=⟨70,[lstV wKnown0 0 1 13,vI 19],.agg ⟨[vI 0,vI 0,vI 0,vI 10,vI 10,vI 0,vI 0,vI 0,vI 0,vI 0,vI 0,vI 0,vI 0]⟩⟩
theorem kKnown360:KKnown360.Ok Try.prog:=CF.of2 noNG mixed (l:=[]) .nil 3000 (by kernel_rfl)
def KKnown361:CF:=⟨55,[lstV wKnown2 0 2 7,.agg ⟨[vI 18380,vI 18380]⟩,.func (.func 57) ⟨[]⟩ ⟨[]⟩],.agg ⟨[vI 300,vI 300,vI 0,vI 0,vI 0,vI 0]⟩⟩
theorem kKnown361:KKnown361.Ok Try.prog:=CF.of2 noNG mixed (l:=[]) .nil 3000 (by kernel_rfl)
def KKnown362:CF:=⟨91,[.agg ⟨[vJ 1,vI 2,vI 0,vI 0,vI 138,vI 138]⟩,.func (.func 98) ⟨[]⟩ ⟨[]⟩,.agg ⟨[vI 300,vI 300,vI 0,vI 0,vI 0,vI 0]⟩],.agg ⟨[vJ 301,vJ 297,vI 0,vI 0,vI 138,vI 138]⟩⟩
theorem kKnown362:KKnown362.Ok Try.prog:=CF.of2 noNG mixed (l:=[]) .nil 3000 (by kernel_rfl)
def KKnown363:CF:=⟨125,[.agg ⟨[vI 107848,vI 110248]⟩],.agg ⟨[vI 328,vI 333]⟩⟩
theorem kKnown363:KKnown363.Ok Try.prog:=CF.of2 noNG mixed (l:=[]) .nil 3000 (by kernel_rfl)
def KKnown364:CF:=⟨116,[.agg ⟨[vJ 301,vJ 297,vI 0,vI 0,vI 138,vI 138]⟩],.agg ⟨[vI 328,vI 333]⟩⟩
theorem kKnown364:KKnown364.Ok Try.prog:=CF.of2 noNG mixed (l:=[KKnown363]) (.cons kKnown363 .nil) 3000 (by kernel_rfl)
def KKnown365:CF:=⟨91,[.agg ⟨[vJ 301,vJ 297,vI 0,vI 0,vI 138,vI 138]⟩,.func (.func 111) ⟨[]⟩ ⟨[]⟩,.agg ⟨[vI 0,vI 0,vI 0,vI 0,vI 0,vI 0]⟩],.agg ⟨[vI 0,vI 0,vI 0,vI 0,vI 0,vI 0]⟩⟩
theorem kKnown365:KKnown365.Ok Try.prog:=CF.of2 noNG mixed (l:=[]) .nil 3000 (by kernel_rfl)
def KKnown366:CF:=⟨112,[.agg ⟨[vJ 301,vJ 297,vI 0,vI 0,vI 138,vI 138]⟩,.func (.func 111) ⟨[]⟩ ⟨[]⟩,.agg ⟨[vI 0,vI 0]⟩],.agg ⟨[vI 0,vI 0,vI 0,vI 0,vI 0,vI 0]⟩⟩
theorem kKnown366:KKnown366.Ok Try.prog:=CF.of2 noNG mixed (l:=[KKnown365]) (.cons kKnown365 .nil) 3000 (by kernel_rfl)
def KKnown367:CF:=⟨99,[.agg wKnown5,.agg ⟨[vI 0,vI 0,vI 0,vI 10,vI 10,vI 0,vI 0,vI 0,vI 0,vI 0,vI 0,vI 0,vI 0]⟩,.agg wKnown27],.agg ⟨[vI 0,vI 0,vI 0,vI 0,vI 0,vI 0]⟩⟩
theorem kKnown367:KKnown367.Ok Try.prog:=CF.of2 noNG mixed (l:=[KKnown361,KKnown362,KKnown364,KKnown366,KKnown27]) (.cons kKnown361 (.cons kKnown362 (.cons kKnown364 (.cons kKnown366 (.cons kKnown27 .nil))))) 3000 (by kernel_rfl)
def KKnown368:CF:=⟨69,[.agg wKnown5,.agg ⟨[vI 0,vI 0,vI 0,vI 10,vI 10,vI 0,vI 0,vI 0,vI 0,vI 0,vI 0,vI 0,vI 0]⟩,.agg wKnown27],.agg ⟨[vI 0,vI 0,vI 0,vI 0,vJ 97,vJ 97]⟩⟩
theorem kKnown368:KKnown368.Ok Try.prog:=CF.of2 noNG mixed (l:=[KKnown40,KKnown41,KKnown77,KKnown367]) (.cons kKnown40 (.cons kKnown41 (.cons kKnown77 (.cons kKnown367 .nil)))) 3000 (by kernel_rfl)
def KKnown369:CF:=⟨91,[.agg ⟨[vJ 1,vI 2,vI 0,vI 0,vI 138,vI 138]⟩,.func (.func 105) ⟨[]⟩ ⟨[]⟩,.agg ⟨[vI 0,vI 0,vI 0,vI 0,vJ 97,vJ 97]⟩],.agg ⟨[vJ 1,vI 2,vI 0,vI 0,vI 40,vI 40]⟩⟩
theorem kKnown369:KKnown369.Ok Try.prog:=CF.of2 noNG mixed (l:=[]) .nil 3000 (by kernel_rfl)
def KKnown370:CF:=⟨91,[.agg ⟨[vJ 36,vI 37,vI 0,vI 0,vI 18380,vI 18380]⟩,.func (.func 105) ⟨[]⟩ ⟨[]⟩,.agg ⟨[vJ 1,vI 2,vI 0,vI 0,vI 40,vI 40]⟩],.agg ⟨[vJ 38,vI 39,vI 0,vI 0,vI 18420,vI 18420]⟩⟩
theorem kKnown370:KKnown370.Ok Try.prog:=CF.of2 noNG mixed (l:=[]) .nil 3000 (by kernel_rfl)
def KKnown371:CF:=⟨119,[.agg wKnown27,.agg ⟨[vI 0,vI 0,vI 0,vI 0,vJ 97,vJ 97]⟩],.agg wKnown28⟩
theorem kKnown371:KKnown371.Ok Try.prog:=CF.of2 noNG mixed (l:=[KKnown369,KKnown370]) (.cons kKnown369 (.cons kKnown370 .nil)) 3000 (by kernel_rfl)
def KKnown372:CF:=⟨86,[.agg ⟨[vJ 38,vI 39,vI 0,vI 0,vI 18420,vI 18420]⟩,vI 2000000000],vT⟩
theorem kKnown372:KKnown372.Ok Try.prog:=CF.of2 noNG mixed (l:=[]) .nil 3000 (by kernel_rfl)
def KKnown373:CF:=⟨86,[.agg ⟨[vJ 1,vI 2,vI 0,vI 0,vI 40,vI 40]⟩,vI 1000000],vT⟩
theorem kKnown373:KKnown373.Ok Try.prog:=CF.of2 noNG mixed (l:=[]) .nil 3000 (by kernel_rfl)
def KKnown374:CF:=⟨68,[.agg wKnown28],vF⟩
theorem kKnown374:KKnown374.Ok Try.prog:=CF.of2 noNG mixed (l:=[KKnown372,KKnown373]) (.cons kKnown372 (.cons kKnown373 .nil)) 3000 (by kernel_rfl)
def KKnown376:CF:=⟨70,[lstV wKnown0 0 1 13,vI 20],.agg ⟨[vI 0,vI 0,vI 0,vI 10,vI 10,vI 0,vI 0,vI 0,vI 0,vI 0,vI 0,vI 0,vI 0]⟩⟩
theorem kKnown376:KKnown376.Ok Try.prog:=CF.of2 noNG mixed (l:=[]) .nil 3000 (by kernel_rfl)
def KKnown377:CF:=⟨55,[lstV wKnown2 0 2 7,.agg ⟨[vI 18420,vI 18420]⟩,.func (.func 57) ⟨[]⟩ ⟨[]⟩],.agg ⟨[vI 300,vI 300,vI 0,vI 0,vI 0,vI 0]⟩⟩
theorem kKnown377:KKnown377.Ok Try.prog:=CF.of2 noNG mixed (l:=[]) .nil 3000 (by kernel_rfl)
def KKnown378:CF:=⟨91,[.agg ⟨[vJ 1,vI 2,vI 0,vI 0,vI 40,vI 40]⟩,.func (.func 98) ⟨[]⟩ ⟨[]⟩,.agg ⟨[vI 300,vI 300,vI 0,vI 0,vI 0,vI 0]⟩],.agg ⟨[vJ 301,vJ 297,vI 0,vI 0,vI 40,vI 40]⟩⟩
theorem kKnown378:KKnown378.Ok Try.prog:=CF.of2 noNG mixed (l:=[]) .nil 3000 (by kernel_rfl)
def KKnown379:CF:=⟨125,[.agg ⟨[vI 90404,vI 92804]⟩],.agg ⟨[vI 300,vI 305]⟩⟩
theorem kKnown379:KKnown379.Ok Try.prog:=CF.of2 noNG mixed (l:=[]) .nil 3000 (by kernel_rfl)
def KKnown380:CF:=⟨116,[.agg ⟨[vJ 301,vJ 297,vI 0,vI 0,vI 40,vI 40]⟩],.agg ⟨[vI 300,vI 305]⟩⟩
theorem kKnown380:KKnown380.Ok Try.prog:=CF.of2 noNG mixed (l:=[KKnown379]) (.cons kKnown379 .nil) 3000 (by kernel_rfl)
def KKnown381:CF:=⟨91,[.agg ⟨[vJ 301,vJ 297,vI 0,vI 0,vI 40,vI 40]⟩,.func (.func 111) ⟨[]⟩ ⟨[]⟩,.agg ⟨[vI 0,vI 0,vI 0,vI 0,vI 0,vI 0]⟩],.agg ⟨[vI 0,vI 0,vI 0,vI 0,vI 0,vI 0]⟩⟩
theorem kKnown381:KKnown381.Ok Try.prog:=CF.of2 noNG mixed (l:=[]) .nil 3000 (by kernel_rfl)
def KKnown382:CF:=⟨112,[.agg ⟨[vJ 301,vJ 297,vI 0,vI 0,vI 40,vI 40]⟩,.func (.func 111) ⟨[]⟩ ⟨[]⟩,.agg ⟨[vI 0,vI 0]⟩],.agg ⟨[vI 0,vI 0,vI 0,vI 0,vI 0,vI 0]⟩⟩
theorem kKnown382:KKnown382.Ok Try.prog:=CF.of2 noNG mixed (l:=[KKnown381]) (.cons kKnown381 .nil) 3000 (by kernel_rfl)
def KKnown383:CF:=⟨99,[.agg wKnown5,.agg ⟨[vI 0,vI 0,vI 0,vI 10,vI 10,vI 0,vI 0,vI 0,vI 0,vI 0,vI 0,vI 0,vI 0]⟩,.agg wKnown28],.agg ⟨[vI 0,vI 0,vI 0,vI 0,vI 0,vI 0]⟩⟩
theorem kKnown383:KKnown383.Ok Try.prog:=CF.of2 noNG mixed (l:=[KKnown377,KKnown378,KKnown27,KKnown380,KKnown382]) (.cons kKnown377 (.cons kKnown378 (.cons kKnown27 (.cons kKnown380 (.cons kKnown382 .nil))))) 3000 (by kernel_rfl)
def KKnown384:CF:=⟨69,[.agg wKnown5,.agg ⟨[vI 0,vI 0,vI 0,vI 10,vI 10,vI 0,vI 0,vI 0,vI 0,vI 0,vI 0,vI 0,vI 0]⟩,.agg wKnown28],.agg ⟨[vI 0,vI 0,vI 0,vI 0,vJ 97,vJ 97]⟩⟩
theorem kKnown384:KKnown384.Ok Try.prog:=CF.of2 noNG mixed (l:=[KKnown40,KKnown41,KKnown77,KKnown383]) (.cons kKnown40 (.cons kKnown41 (.cons kKnown77 (.cons kKnown383 .nil)))) 3000 (by kernel_rfl)
def KKnown385:CF:=⟨91,[.agg ⟨[vJ 1,vI 2,vI 0,vI 0,vI 40,vI 40]⟩,.func (.func 105) ⟨[]⟩ ⟨[]⟩,.agg ⟨[vI 0,vI 0,vI 0,vI 0,vJ 97,vJ 97]⟩],.agg ⟨[vJ 1,vI 2,vI 0,vI 0,vJ 57,vJ 57]⟩⟩
theorem kKnown385:KKnown385.Ok Try.prog:=CF.of2 noNG mixed (l:=[]) .nil 3000 (by kernel_rfl)
def KKnown386:CF:=⟨91,[.agg ⟨[vJ 38,vI 39,vI 0,vI 0,vI 18420,vI 18420]⟩,.func (.func 105) ⟨[]⟩ ⟨[]⟩,.agg ⟨[vJ 1,vI 2,vI 0,vI 0,vJ 57,vJ 57]⟩],.agg ⟨[vJ 40,vI 41,vI 0,vI 0,vI 18362,vI 18362]⟩⟩
theorem kKnown386:KKnown386.Ok Try.prog:=CF.of2 noNG mixed (l:=[]) .nil 3000 (by kernel_rfl)
def KKnown387:CF:=⟨119,[.agg wKnown28,.agg ⟨[vI 0,vI 0,vI 0,vI 0,vJ 97,vJ 97]⟩],.agg wKnown29⟩
theorem kKnown387:KKnown387.Ok Try.prog:=CF.of2 noNG mixed (l:=[KKnown385,KKnown386]) (.cons kKnown385 (.cons kKnown386 .nil)) 3000 (by kernel_rfl)
def KKnown388:CF:=⟨86,[.agg ⟨[vJ 40,vI 41,vI 0,vI 0,vI 18362,vI 18362]⟩,vI 2000000000],vT⟩
theorem kKnown388:KKnown388.Ok Try.prog:=CF.of2 noNG mixed (l:=[]) .nil 3000 (by kernel_rfl)
def KKnown389:CF:=⟨86,[.agg ⟨[vJ 1,vI 2,vI 0,vI 0,vJ 57,vJ 57]⟩,vI 1000000],vT⟩
theorem kKnown389:KKnown389.Ok Try.prog:=CF.of2 noNG mixed (l:=[]) .nil 3000 (by kernel_rfl)
def KKnown390:CF:=⟨68,[.agg wKnown29],vF⟩
theorem kKnown390:KKnown390.Ok Try.prog:=CF.of2 noNG mixed (l:=[KKnown388,KKnown389]) (.cons kKnown388 (.cons kKnown389 .nil)) 3000 (by kernel_rfl)
def KKnown392:CF:=⟨70,[lstV wKnown0 0 1 13,vI 21],.agg ⟨[vI 0,vI 0,vI 0,vI 10,vI 10,vI 0,vI 0,vI 0,vI 0,vI 0,vI 0,vI 0,vI 0]⟩⟩
theorem kKnown392:KKnown392.Ok Try.prog:=CF.of2 noNG mixed (l:=[]) .nil 3000 (by kernel_rfl)
def KKnown393:CF:=⟨55,[lstV wKnown2 0 2 7,.agg ⟨[vI 18362,vI 18362]⟩,.func (.func 57) ⟨[]⟩ ⟨[]⟩],.agg ⟨[vI 300,vI 300,vI 0,vI 0,vI 0,vI 0]⟩⟩
theorem kKnown393:KKnown393.Ok Try.prog:=CF.of2 noNG mixed (l:=[]) .nil 3000 (by kernel_rfl)
def KKnown394:CF:=⟨91,[.agg ⟨[vJ 1,vI 2,vI 0,vI 0,vJ 57,vJ 57]⟩,.func (.func 98) ⟨[]⟩ ⟨[]⟩,.agg ⟨[vI 300,vI 300,vI 0,vI 0,vI 0,vI 0]⟩],.agg ⟨[vJ 301,vJ 297,vI 0,vI 0,vJ 57,vJ 57]⟩⟩
theorem kKnown394:KKnown394.Ok Try.prog:=CF.of2 noNG mixed (l:=[]) .nil 3000 (by kernel_rfl)
def KKnown395:CF:=⟨125,[.agg ⟨[vI 92168,vI 94568]⟩],.agg ⟨[vI 303,vI 308]⟩⟩
theorem kKnown395:KKnown395.Ok Try.prog:=CF.of2 noNG mixed (l:=[]) .nil 3000 (by kernel_rfl)
def KKnown396:CF:=⟨116,[.agg ⟨[vJ 301,vJ 297,vI 0,vI 0,vJ 57,vJ 57]⟩],.agg ⟨[vI 303,vI 308]⟩⟩
theorem kKnown396:KKnown396.Ok Try.prog:=CF.of2 noNG mixed (l:=[KKnown395]) (.cons kKnown395 .nil) 3000 (by kernel_rfl)
def KKnown397:CF:=⟨91,[.agg ⟨[vJ 301,vJ 297,vI 0,vI 0,vJ 57,vJ 57]⟩,.func (.func 111) ⟨[]⟩ ⟨[]⟩,.agg ⟨[vI 0,vI 0,vI 0,vI 0,vI 0,vI 0]⟩],.agg ⟨[vI 0,vI 0,vI 0,vI 0,vI 0,vI 0]⟩⟩
theorem kKnown397:KKnown397.Ok Try.prog:=CF.of2 noNG mixed (l:=[]) .nil 3000 (by kernel_rfl)
def KKnown398:CF:=⟨112,[.agg ⟨[vJ 301,vJ 297,vI 0,vI 0,vJ 57,vJ 57]⟩,.func (.func 111) ⟨[]⟩ ⟨[]⟩,.agg ⟨[vI 0,vI 0]⟩],.agg ⟨[vI 0,vI 0,vI 0,vI 0,vI 0,vI 0]⟩⟩
theorem kKnown398:KKnown398.Ok Try.prog:=CF.of2 noNG mixed (l:=[KKnown397]) (.cons kKnown397 .nil) 3000 (by kernel_rfl)
def KKnown399:CF:=⟨99,[.agg wKnown5,.agg ⟨[vI 0,vI 0,vI 0,vI 10,vI 10,vI 0,vI 0,vI 0,vI 0,vI 0,vI 0,vI 0,vI 0]⟩,.agg wKnown29],.agg ⟨[vI 0,vI 0,vI 0,vI 0,vI 0,vI 0]⟩⟩
theorem kKnown399:KKnown399.Ok Try.prog:=CF.of2 noNG mixed (l:=[KKnown393,KKnown394,KKnown396,KKnown398,KKnown27]) (.cons kKnown393 (.cons kKnown394 (.cons kKnown396 (.cons kKnown398 (.cons kKnown27 .nil))))) 3000 (by kernel_rfl)
def KKnown400:CF:=⟨69,[.agg wKnown5,.agg ⟨[vI 0,vI 0,vI 0,vI 10,vI 10,vI 0,vI 0,vI 0,vI 0,vI 0,vI 0,vI 0,vI 0]⟩,.agg wKnown29],.agg ⟨[vI 0,vI 0,vI 0,vI 0,vJ 97,vJ 97]⟩⟩
theorem kKnown400:KKnown400.Ok Try.prog:=CF.of2 noNG mixed (l:=[KKnown40,KKnown41,KKnown77,KKnown399]) (.cons kKnown40 (.cons kKnown41 (.cons kKnown77 (.cons kKnown399 .nil)))) 3000 (by kernel_rfl)
def KKnown401:CF:=⟨91,[.agg ⟨[vJ 1,vI 2,vI 0,vI 0,vJ 57,vJ 57]⟩,.func (.func 105) ⟨[]⟩ ⟨[]⟩,.agg ⟨[vI 0,vI 0,vI 0,vI 0,vJ 97,vJ 97]⟩],.agg ⟨[vJ 1,vI 2,vI 0,vI 0,vJ 155,vJ 155]⟩⟩
theorem kKnown401:KKnown401.Ok Try.prog:=CF.of2 noNG mixed (l:=[]) .nil 3000 (by kernel_rfl)
def KKnown402:CF:=⟨91,[.agg ⟨[vJ 40,vI 41,vI 0,vI 0,vI 18362,vI 18362]⟩,.func (.func 105) ⟨[]⟩ ⟨[]⟩,.agg ⟨[vJ 1,vI 2,vI 0,vI 0,vJ 155,vJ 155]⟩],.agg ⟨[vJ 42,vI 43,vI 0,vI 0,vI 18206,vI 18206]⟩⟩
theorem kKnown402:KKnown402.Ok Try.prog:=CF.of2 noNG mixed (l:=[]) .nil 3000 (by kernel_rfl)
def KKnown403:CF:=⟨119,[.agg wKnown29,.agg ⟨[vI 0,vI 0,vI 0,vI 0,vJ 97,vJ 97]⟩],.agg wKnown30⟩
theorem kKnown403:KKnown403.Ok Try.prog:=CF.of2 noNG mixed (l:=[KKnown401,KKnown402]) (.cons kKnown401 (.cons kKnown402 .nil)) 3000 (by kernel_rfl)
def KKnown404:CF:=⟨86,[.agg ⟨[vJ 42,vI 43,vI 0,vI 0,vI 18206,vI 18206]⟩,vI 2000000000],vT⟩
theorem kKnown404:KKnown404.Ok Try.prog:=CF.of2 noNG mixed (l:=[]) .nil 3000 (by kernel_rfl)
def KKnown405:CF:=⟨86,[.agg ⟨[vJ 1,vI 2,vI 0,vI 0,vJ 155,vJ 155]⟩,vI 1000000],vT⟩
theorem kKnown405:KKnown405.Ok Try.prog:=CF.of2 noNG mixed (l:=[]) .nil 3000 (by kernel_rfl)
def KKnown406:CF:=⟨68,[.agg wKnown30],vF⟩
theorem kKnown406:KKnown406.Ok Try.prog:=CF.of2 noNG mixed (l:=[KKnown404,KKnown405]) (.cons kKnown404 (.cons kKnown405 .nil)) 3000 (by kernel_rfl)
def KKnown408:CF:=⟨70,[lstV wKnown0 0 1 13,vI 22],.agg ⟨[vI 0,vI 0,vI 0,vI 10,vI 10,vI 0,vI 0,vI 0,vI 0,vI 0,vI 0,vI 0,vI 0]⟩⟩
theorem kKnown408:KKnown408.Ok Try.prog:=CF.of2 noNG mixed (l:=[]) .nil 3000 (by kernel_rfl)
def KKnown409:CF:=⟨55,[lstV wKnown2 0 2 7,.agg ⟨[vI 18206,vI 18206]⟩,.func (.func 57) ⟨[]⟩ ⟨[]⟩],.agg ⟨[vI 300,vI 300,vI 0,vI 0,vI 0,vI 0]⟩⟩
theorem kKnown409:KKnown409.Ok Try.prog:=CF.of2 noNG mixed (l:=[]) .nil 3000 (by kernel_rfl)
def KKnown410:CF:=⟨91,[.agg ⟨[vJ 1,vI 2,vI 0,vI 0,vJ 155,vJ 155]⟩,.func (.func 98) ⟨[]⟩ ⟨[]⟩,.agg ⟨[vI 300,vI 300,vI 0,vI 0,vI 0,vI 0]⟩],.agg ⟨[vJ 301,vJ 297,vI 0,vI 0,vJ 155,vJ 155]⟩⟩
theorem kKnown410:KKnown410.Ok Try.prog:=CF.of2 noNG mixed (l:=[]) .nil 3000 (by kernel_rfl)
def KKnown411:CF:=⟨125,[.agg ⟨[vI 113140,vI 115540]⟩],.agg ⟨[vI 336,vI 340]⟩⟩
theorem kKnown411:KKnown411.Ok Try.prog:=CF.of2 noNG mixed (l:=[]) .nil 3000 (by kernel_rfl)
def KKnown412:CF:=⟨116,[.agg ⟨[vJ 301,vJ 297,vI 0,vI 0,vJ 155,vJ 155]⟩],.agg ⟨[vI 336,vI 340]⟩⟩
theorem kKnown412:KKnown412.Ok Try.prog:=CF.of2 noNG mixed (l:=[KKnown411]) (.cons kKnown411 .nil) 3000 (by kernel_rfl)
def KKnown413:CF:=⟨91,[.agg ⟨[vJ 301,vJ 297,vI 0,vI 0,vJ 155,vJ 155]⟩,.func (.func 111) ⟨[]⟩ ⟨[]⟩,.agg ⟨[vI 0,vI 0,vI 0,vI 0,vI 0,vI 0]⟩],.agg ⟨[vI 0,vI 0,vI 0,vI 0,vI 0,vI 0]⟩⟩
theorem kKnown413:KKnown413.Ok Try.prog:=CF.of2 noNG mixed (l:=[]) .nil 3000 (by kernel_rfl)
def KKnown414:CF:=⟨112,[.agg ⟨[vJ 301,vJ 297,vI 0,vI 0,vJ 155,vJ 155]⟩,.func (.func 111) ⟨[]⟩ ⟨[]⟩,.agg ⟨[vI 0,vI 0]⟩],.agg ⟨[vI 0,vI 0,vI 0,vI 0,vI 0,vI 0]⟩⟩
theorem kKnown414:KKnown414.Ok Try.prog:=CF.of2 noNG mixed (l:=[KKnown413]) (.cons kKnown413 .nil) 3000 (by kernel_rfl)
def KKnown415:CF:=⟨99,[.agg wKnown5,.agg ⟨[vI 0,vI 0,vI 0,vI 10,vI 10,vI 0,vI 0,vI 0,vI 0,vI 0,vI 0,vI 0,vI 0]⟩,.agg wKnown30],.agg ⟨[vI 0,vI 0,vI 0,vI 0,vI 0,vI 0]⟩⟩
theorem kKnown415:KKnown415.Ok Try.prog:=CF.of2 noNG mixed (l:=[KKnown409,KKnown410,KKnown27,KKnown412,KKnown414]) (.cons kKnown409 (.cons kKnown410 (.cons kKnown27 (.cons kKnown412 (.cons kKnown414 .nil))))) 3000 (by kernel_rfl)
def KKnown416:CF:=⟨69,[.agg wKnown5,.agg ⟨[vI 0,vI 0,vI 0,vI 10,vI 10,vI 0,vI 0,vI 0,vI 0,vI 0,vI 0,vI 0,vI 0]⟩,.agg wKnown30],.agg ⟨[vI 0,vI 0,vI 0,vI 0,vJ 97,vJ 97]⟩⟩
theorem kKnown416:KKnown416.Ok Try.prog:=CF.of2 noNG mixed (l:=[KKnown40,KKnown41,KKnown77,KKnown415]) (.cons kKnown40 (.cons kKnown41 (.cons kKnown77 (.cons kKnown415 .nil)))) 3000 (by kernel_rfl)
def KKnown417:CF:=⟨91,[.agg ⟨[vJ 1,vI 2,vI 0,vI 0,vJ 155,vJ 155]⟩,.func (.func 105) ⟨[]⟩ ⟨[]⟩,.agg ⟨[vI 0,vI 0,vI 0,vI 0,vJ 97,vJ 97]⟩],.agg ⟨[vJ 1,vI 2,vI 0,vI 0,vJ 253,vJ 253]⟩⟩
theorem kKnown417:KKnown417.Ok Try.prog:=CF.of2 noNG mixed (l:=[]) .nil 3000 (by kernel_rfl)
def KKnown418:CF:=⟨91,[.agg ⟨[vJ 42,vI 43,vI 0,vI 0,vI 18206,vI 18206]⟩,.func (.func 105) ⟨[]⟩ ⟨[]⟩,.agg ⟨[vJ 1,vI 2,vI 0,vI 0,vJ 253,vJ 253]⟩],.agg ⟨[vJ 44,vI 45,vI 0,vI 0,vI 17952,vI 17952]⟩⟩
theorem kKnown418:KKnown418.Ok Try.prog:=CF.of2 noNG mixed (l:=[]) .nil 3000 (by kernel_rfl)
def KKnown419:CF:=⟨119,[.agg wKnown30,.agg ⟨[vI 0,vI 0,vI 0,vI 0,vJ 97,vJ 97]⟩],.agg wKnown31⟩
theorem kKnown419:KKnown419.Ok Try.prog:=CF.of2 noNG mixed (l:=[KKnown417,KKnown418]) (.cons kKnown417 (.cons kKnown418 .nil)) 3000 (by kernel_rfl)
def KKnown420:CF:=⟨86,[.agg ⟨[vJ 44,vI 45,vI 0,vI 0,vI 17952,vI 17952]⟩,vI 2000000000],vT⟩
theorem kKnown420:KKnown420.Ok Try.prog:=CF.of2 noNG mixed (l:=[]) .nil 3000 (by kernel_rfl)
def KKnown421:CF:=⟨86,[.agg ⟨[vJ 1,vI 2,vI 0,vI 0,vJ 253,vJ 253]⟩,vI 1000000],vT⟩
theorem kKnown421:KKnown421.Ok Try.prog:=CF.of2 noNG mixed (l:=[]) .nil 3000 (by kernel_rfl)
def KKnown422:CF:=⟨68,[.agg wKnown31],vF⟩
theorem kKnown422:KKnown422.Ok Try.prog:=CF.of2 noNG mixed (l:=[KKnown420,KKnown421]) (.cons kKnown420 (.cons kKnown421 .nil)) 3000 (by kernel_rfl)
def KKnown424:CF:=⟨70,[lstV wKnown0 0 1 13,vI 23],.agg ⟨[vI 0,vI 0,vI 0,vI 10,vI 10,vI 0,vI 0,vI 0,vI 0,vI 0,vI 0,vI 0,vI 0]⟩⟩
theorem kKnown424:KKnown424.Ok Try.prog:=CF.of2 noNG mixed (l:=[]) .nil 3000 (by kernel_rfl)
def KKnown425:CF:=⟨55,[lstV wKnown2 0 2 7,.agg ⟨[vI 17952,vI 17952]⟩,.func (.func 57) ⟨[]⟩ ⟨[]⟩],.agg ⟨[vI 300,vI 300,vI 0,vI 0,vI 0,vI 0]⟩⟩
theorem kKnown425:KKnown425.Ok Try.prog:=CF.of2 noNG mixed (l:=[]) .nil 3000 (by kernel_rfl)
def KKnown426:CF:=⟨91,[.agg ⟨[vJ 1,vI 2,vI 0,vI 0,vJ 253,vJ 253]⟩,.func (.func 98) ⟨[]⟩ ⟨[]⟩,.agg ⟨[vI 300,vI 300,vI 0,vI 0,vI 0,vI 0]⟩],.agg ⟨[vJ 301,vJ 297,vI 0,vI 0,vJ 253,vJ 253]⟩⟩
theorem kKnown426:KKnown426.Ok Try.prog:=CF.of2 noNG mixed (l:=[]) .nil 3000 (by kernel_rfl)
def KKnown427:CF:=⟨125,[.agg ⟨[vI 153320,vI 155720]⟩],.agg ⟨[vI 391,vI 395]⟩⟩
theorem kKnown427:KKnown427.Ok Try.prog:=CF.of2 noNG mixed (l:=[]) .nil 3000 (by kernel_rfl)
def KKnown428:CF:=⟨116,[.agg ⟨[vJ 301,vJ 297,vI 0,vI 0,vJ 253,vJ 253]⟩],.agg ⟨[vI 391,vI 395]⟩⟩
theorem kKnown428:KKnown428.Ok Try.prog:=CF.of2 noNG mixed (l:=[KKnown427]) (.cons kKnown427 .nil) 3000 (by kernel_rfl)
def KKnown429:CF:=⟨91,[.agg ⟨[vJ 301,vJ 297,vI 0,vI 0,vJ 253,vJ 253]⟩,.func (.func 111) ⟨[]⟩ ⟨[]⟩,.agg ⟨[vI 0,vI 0,vI 0,vI 0,vI 0,vI 0]⟩],.agg ⟨[vI 0,vI 0,vI 0,vI 0,vI 0,vI 0]⟩⟩
theorem kKnown429:KKnown429.Ok Try.prog:=CF.of2 noNG mixed (l:=[]) .nil 3000 (by kernel_rfl)
def KKnown430:CF:=⟨112,[.agg ⟨[vJ 301,vJ 297,vI 0,vI 0,vJ 253,vJ 253]⟩,.func (.func 111) ⟨[]⟩ ⟨[]⟩,.agg ⟨[vI 0,vI 0]⟩],.agg ⟨[vI 0,vI 0,vI 0,vI 0,vI 0,vI 0]⟩⟩
theorem kKnown430:KKnown430.Ok Try.prog:=CF.of2 noNG mixed (l:=[KKnown429]) (.cons kKnown429 .nil) 3000 (by kernel_rfl)
def KKnown431:CF:=⟨99,[.agg wKnown5,.agg ⟨[vI 0,vI 0,vI 0,vI 10,vI 10,vI 0,vI 0,vI 0,vI 0,vI 0,vI 0,vI 0,vI 0]⟩,.agg wKnown31],.agg ⟨[vI 0,vI 0,vI 0,vI 0,vI 0,vI 0]⟩⟩
theorem kKnown431:KKnown431.Ok Try.prog:=CF.of2 noNG mixed (l:=[KKnown425,KKnown426,KKnown428,KKnown430,KKnown27]) (.cons kKnown425 (.cons kKnown426 (.cons kKnown428 (.cons kKnown430 (.cons kKnown27 .nil))))) 3000 (by kernel_rfl)
def KKnown432:CF:=⟨69,[.agg wKnown5,.agg ⟨[vI 0,vI 0,vI 0,vI 10,vI 10,vI 0,vI 0,vI 0,vI 0,vI 0,vI 0,vI 0,vI 0]⟩,.agg wKnown31],.agg ⟨[vI 0,vI 0,vI 0,vI 0,vJ 97,vJ 97]⟩⟩
theorem kKnown432:KKnown432.Ok Try.prog:=CF.of2 noNG mixed (l:=[KKnown40,KKnown41,KKnown77,KKnown431]) (.cons kKnown40 (.cons kKnown41 (.cons kKnown77 (.cons kKnown431 .nil)))) 3000 (by kernel_rfl)
def KKnown433:CF:=⟨91,[.agg ⟨[vJ 1,vI 2,vI 0,vI 0,vJ 253,vJ 253]⟩,.func (.func 105) ⟨[]⟩ ⟨[]⟩,.agg ⟨[vI 0,vI 0,vI 0,vI 0,vJ 97,vJ 97]⟩],.agg ⟨[vJ 1,vI 2,vI 0,vI 0,vJ 351,vJ 351]⟩⟩
theorem kKnown433:KKnown433.Ok Try.prog:=CF.of2 noNG mixed (l:=[]) .nil 3000 (by kernel_rfl)
def KKnown434:CF:=⟨91,[.agg ⟨[vJ 44,vI 45,vI 0,vI 0,vI 17952,vI 17952]⟩,.func (.func 105) ⟨[]⟩ ⟨[]⟩,.agg ⟨[vJ 1,vI 2,vI 0,vI 0,vJ 351,vJ 351]⟩],.agg ⟨[vJ 46,vI 47,vI 0,vI 0,vI 17600,vI 17600]⟩⟩
theorem kKnown434:KKnown434.Ok Try.prog:=CF.of2 noNG mixed (l:=[]) .nil 3000 (by kernel_rfl)
def KKnown435:CF:=⟨119,[.agg wKnown31,.agg ⟨[vI 0,vI 0,vI 0,vI 0,vJ 97,vJ 97]⟩],.agg wKnown32⟩
theorem kKnown435:KKnown435.Ok Try.prog:=CF.of2 noNG mixed (l:=[KKnown433,KKnown434]) (.cons kKnown433 (.cons kKnown434 .nil)) 3000 (by kernel_rfl)
def KKnown436:CF:=⟨86,[.agg ⟨[vJ 46,vI 47,vI 0,vI 0,vI 17600,vI 17600]⟩,vI 2000000000],vT⟩
theorem kKnown436:KKnown436.Ok Try.prog:=CF.of2 noNG mixed (l:=[]) .nil 3000 (by kernel_rfl)
def KKnown437:CF:=⟨86,[.agg ⟨[vJ 1,vI 2,vI 0,vI 0,vJ 351,vJ 351]⟩,vI 1000000],vT⟩
theorem kKnown437:KKnown437.Ok Try.prog:=CF.of2 noNG mixed (l:=[]) .nil 3000 (by kernel_rfl)
def KKnown438:CF:=⟨68,[.agg wKnown32],vF⟩
theorem kKnown438:KKnown438.Ok Try.prog:=CF.of2 noNG mixed (l:=[KKnown436,KKnown437]) (.cons kKnown436 (.cons kKnown437 .nil)) 3000 (by kernel_rfl)
def KKnown440:CF:=⟨70,[lstV wKnown0 0 1 13,vI 24],.agg ⟨[vI 0,vI 0,vI 0,vI 10,vI 10,vI 0,vI 0,vI 0,vI 0,vI 0,vI 0,vI 0,vI 0]⟩⟩
theorem kKnown440:KKnown440.Ok Try.prog:=CF.of2 noNG mixed (l:=[]) .nil 3000 (by kernel_rfl)
def KKnown441:CF:=⟨55,[lstV wKnown2 0 2 7,.agg ⟨[vI 17600,vI 17600]⟩,.func (.func 57) ⟨[]⟩ ⟨[]⟩],.agg ⟨[vI 300,vI 300,vI 0,vI 0,vI 0,vI 0]⟩⟩
theorem kKnown441:KKnown441.Ok Try.prog:=CF.of2 noNG mixed (l:=[]) .nil 3000 (by kernel_rfl)
def KKnown442:CF:=⟨91,[.agg ⟨[vJ 1,vI 2,vI 0,vI 0,vJ 351,vJ 351]⟩,.func (.func 98) ⟨[]⟩ ⟨[]⟩,.agg ⟨[vI 300,vI 300,vI 0,vI 0,vI 0,vI 0]⟩],.agg ⟨[vJ 301,vJ 297,vI 0,vI 0,vJ 351,vJ 351]⟩⟩
theorem kKnown442:KKnown442.Ok Try.prog:=CF.of2 noNG mixed (l:=[]) .nil 3000 (by kernel_rfl)
def KKnown443:CF:=⟨125,[.agg ⟨[vI 212708,vI 215108]⟩],.agg ⟨[vI 461,vI 464]⟩⟩
theorem kKnown443:KKnown443.Ok Try.prog:=CF.of2 noNG mixed (l:=[]) .nil 3000 (by kernel_rfl)
def KKnown444:CF:=⟨116,[.agg ⟨[vJ 301,vJ 297,vI 0,vI 0,vJ 351,vJ 351]⟩],.agg ⟨[vI 461,vI 464]⟩⟩
theorem kKnown444:KKnown444.Ok Try.prog:=CF.of2 noNG mixed (l:=[KKnown443]) (.cons kKnown443 .nil) 3000 (by kernel_rfl)
def KKnown445:CF:=⟨91,[.agg ⟨[vJ 301,vJ 297,vI 0,vI 0,vJ 351,vJ 351]⟩,.func (.func 111) ⟨[]⟩ ⟨[]⟩,.agg ⟨[vI 0,vI 0,vI 0,vI 0,vI 0,vI 0]⟩],.agg ⟨[vI 0,vI 0,vI 0,vI 0,vI 0,vI 0]⟩⟩
theorem kKnown445:KKnown445.Ok Try.prog:=CF.of2 noNG mixed (l:=[]) .nil 3000 (by kernel_rfl)
def KKnown446:CF:=⟨112,[.agg ⟨[vJ 301,vJ 297,vI 0,vI 0,vJ 351,vJ 351]⟩,.func (.func 111) ⟨[]⟩ ⟨[]⟩,.agg ⟨[vI 0,vI 0]⟩],.agg ⟨[vI 0,vI 0,vI 0,vI 0,vI 0,vI 0]⟩⟩
theorem kKnown446:KKnown446.Ok Try.prog:=CF.of2 noNG mixed (l:=[KKnown445]) (.cons kKnown445 .nil) 3000 (by kernel_rfl)
def KKnown447:CF:=⟨99,[.agg wKnown5,.agg ⟨[vI 0,vI 0,vI 0,vI 10,vI 10,vI 0,vI 0,vI 0,vI 0,vI 0,vI 0,vI 0,vI 0]⟩,.agg wKnown32],.agg ⟨[vI 0,vI 0,vI 0,vI 0,vI 0,vI 0]⟩⟩
theorem kKnown447:KKnown447.Ok Try.prog:=CF.of2 noNG mixed (l:=[KKnown441,KKnown442,KKnown27,KKnown444,KKnown446]) (.cons kKnown441 (.cons kKnown442 (.cons kKnown27 (.cons kKnown444 (.cons kKnown446 .nil))))) 3000 (by kernel_rfl)
def KKnown448:CF:=⟨69,[.agg wKnown5,.agg ⟨[vI 0,vI 0,vI 0,vI 10,vI 10,vI 0,vI 0,vI 0,vI 0,vI 0,vI 0,vI 0,vI 0]⟩,.agg wKnown32],.agg ⟨[vI 0,vI 0,vI 0,vI 0,vJ 97,vJ 97]⟩⟩
theorem kKnown448:KKnown448.Ok Try.prog:=CF.of2 noNG mixed (l:=[KKnown40,KKnown41,KKnown77,KKnown447]) (.cons kKnown40 (.cons kKnown41 (.cons kKnown77 (.cons kKnown447 .nil)))) 3000 (by kernel_rfl)
def KKnown449:CF:=⟨91,[.agg ⟨[vJ 1,vI 2,vI 0,vI 0,vJ 351,vJ 351]⟩,.func (.func 105) ⟨[]⟩ ⟨[]⟩,.agg ⟨[vI 0,vI 0,vI 0,vI 0,vJ 97,vJ 97]⟩],.agg ⟨[vJ 1,vI 2,vI 0,vI 0,vJ 449,vJ 449]⟩⟩
theorem kKnown449:KKnown449.Ok Try.prog:=CF.of2 noNG mixed (l:=[]) .nil 3000 (by kernel_rfl)
def KKnown450:CF:=⟨91,[.agg ⟨[vJ 46,vI 47,vI 0,vI 0,vI 17600,vI 17600]⟩,.func (.func 105) ⟨[]⟩ ⟨[]⟩,.agg ⟨[vJ 1,vI 2,vI 0,vI 0,vJ 449,vJ 449]⟩],.agg ⟨[vJ 48,vI 49,vI 0,vI 0,vI 17150,vI 17150]⟩⟩
theorem kKnown450:KKnown450.Ok Try.prog:=CF.of2 noNG mixed (l:=[]) .nil 3000 (by kernel_rfl)
def KKnown451:CF:=⟨119,[.agg wKnown32,.agg ⟨[vI 0,vI 0,vI 0,vI 0,vJ 97,vJ 97]⟩],.agg wKnown33⟩
theorem kKnown451:KKnown451.Ok Try.prog:=CF.of2 noNG mixed (l:=[KKnown449,KKnown450]) (.cons kKnown449 (.cons kKnown450 .nil)) 3000 (by kernel_rfl)
def KKnown452:CF:=⟨86,[.agg ⟨[vJ 48,vI 49,vI 0,vI 0,vI 17150,vI 17150]⟩,vI 2000000000],vT⟩
theorem kKnown452:KKnown452.Ok Try.prog:=CF.of2 noNG mixed (l:=[]) .nil 3000 (by kernel_rfl)
def KKnown453:CF:=⟨86,[.agg ⟨[vJ 1,vI 2,vI 0,vI 0,vJ 449,vJ 449]⟩,vI 1000000],vT⟩
theorem kKnown453:KKnown453.Ok Try.prog:=CF.of2 noNG mixed (l:=[]) .nil 3000 (by kernel_rfl)
def KKnown454:CF:=⟨68,[.agg wKnown33],vF⟩
theorem kKnown454:KKnown454.Ok Try.prog:=CF.of2 noNG mixed (l:=[KKnown452,KKnown453]) (.cons kKnown452 (.cons kKnown453 .nil)) 3000 (by kernel_rfl)
def KKnown456:CF:=⟨70,[lstV wKnown0 0 1 13,vI 25],.agg ⟨[vI 0,vI 0,vI 0,vI 10,vI 10,vI 0,vI 0,vI 0,vI 0,vI 0,vI 0,vI 0,vI 0]⟩⟩
theorem kKnown456:KKnown456.Ok Try.prog:=CF.of2 noNG mixed (l:=[]) .nil 3000 (by kernel_rfl)
def KKnown457:CF:=⟨55,[lstV wKnown2 0 2 7,.agg ⟨[vI 17150,vI 17150]⟩,.func (.func 57) ⟨[]⟩ ⟨[]⟩],.agg ⟨[vI 300,vI 300,vI 0,vI 0,vI 0,vI 0]⟩⟩
theorem kKnown457:KKnown457.Ok Try.prog:=CF.of2 noNG mixed (l:=[]) .nil 3000 (by kernel_rfl)
def KKnown458:CF:=⟨91,[.agg ⟨[vJ 1,vI 2,vI 0,vI 0,vJ 449,vJ 449]⟩,.func (.func 98) ⟨[]⟩ ⟨[]⟩,.agg ⟨[vI 300,vI 300,vI 0,vI 0,vI 0,vI 0]⟩],.agg ⟨[vJ 301,vJ 297,vI 0,vI 0,vJ 449,vJ 449]⟩⟩
theorem kKnown458:KKnown458.Ok Try.prog:=CF.of2 noNG mixed (l:=[]) .nil 3000 (by kernel_rfl)
def KKnown459:CF:=⟨125,[.agg ⟨[vI 291304,vI 293704]⟩],.agg ⟨[vI 539,vI 542]⟩⟩
theorem kKnown459:KKnown459.Ok Try.prog:=CF.of2 noNG mixed (l:=[]) .nil 3000 (by kernel_rfl)
def KKnown460:CF:=⟨116,[.agg ⟨[vJ 301,vJ 297,vI 0,vI 0,vJ 449,vJ 449]⟩],.agg ⟨[vI 539,vI 542]⟩⟩
theorem kKnown460:KKnown460.Ok Try.prog:=CF.of2 noNG mixed (l:=[KKnown459]) (.cons kKnown459 .nil) 3000 (by kernel_rfl)
def KKnown461:CF:=⟨91,[.agg ⟨[vJ 301,vJ 297,vI 0,vI 0,vJ 449,vJ 449]⟩,.func (.func 111) ⟨[]⟩ ⟨[]⟩,.agg ⟨[vI 0,vI 0,vI 0,vI 0,vI 0,vI 0]⟩],.agg ⟨[vI 0,vI 0,vI 0,vI 0,vI 0,vI 0]⟩⟩
theorem kKnown461:KKnown461.Ok Try.prog:=CF.of2 noNG mixed (l:=[]) .nil 3000 (by kernel_rfl)
def KKnown462:CF:=⟨112,[.agg ⟨[vJ 301,vJ 297,vI 0,vI 0,vJ 449,vJ 449]⟩,.func (.func 111) ⟨[]⟩ ⟨[]⟩,.agg ⟨[vI 0,vI 0]⟩],.agg ⟨[vI 0,vI 0,vI 0,vI 0,vI 0,vI 0]⟩⟩
theorem kKnown462:KKnown462.Ok Try.prog:=CF.of2 noNG mixed (l:=[KKnown461]) (.cons kKnown461 .nil) 3000 (by kernel_rfl)
def KKnown463:CF:=⟨99,[.agg wKnown5,.agg ⟨[vI 0,vI 0,vI 0,vI 10,vI 10,vI 0,vI 0,vI 0,vI 0,vI 0,vI 0,vI 0,vI 0]⟩,.agg wKnown33],.agg ⟨[vI 0,vI 0,vI 0,vI 0,vI 0,vI 0]⟩⟩
theorem kKnown463:KKnown463.Ok Try.prog:=CF.of2 noNG mixed (l:=[KKnown457,KKnown458,KKnown460,KKnown462,KKnown27]) (.cons kKnown457 (.cons kKnown458 (.cons kKnown460 (.cons kKnown462 (.cons kKnown27 .nil))))) 3000 (by kernel_rfl)
def KKnown464:CF:=⟨69,[.agg wKnown5,.agg ⟨[vI 0,vI 0,vI 0,vI 10,vI 10,vI 0,vI 0,vI 0,vI 0,vI 0,vI 0,vI 0,vI 0]⟩,.agg wKnown33],.agg ⟨[vI 0,vI 0,vI 0,vI 0,vJ 97,vJ 97]⟩⟩
theorem kKnown464:KKnown464.Ok Try.prog:=CF.of2 noNG mixed (l:=[KKnown40,KKnown41,KKnown77,KKnown463]) (.cons kKnown40 (.cons kKnown41 (.cons kKnown77 (.cons kKnown463 .nil)))) 3000 (by kernel_rfl)
def KKnown465:CF:=⟨91,[.agg ⟨[vJ 1,vI 2,vI 0,vI 0,vJ 449,vJ 449]⟩,.func (.func 105) ⟨[]⟩ ⟨[]⟩,.agg ⟨[vI 0,vI 0,vI 0,vI 0,vJ 97,vJ 97]⟩],.agg ⟨[vJ 1,vI 2,vI 0,vI 0,vJ 547,vJ 547]⟩⟩
theorem kKnown465:KKnown465.Ok Try.prog:=CF.of2 noNG mixed (l:=[]) .nil 3000 (by kernel_rfl)
def KKnown466:CF:=⟨91,[.agg ⟨[vJ 48,vI 49,vI 0,vI 0,vI 17150,vI 17150]⟩,.func (.func 105) ⟨[]⟩ ⟨[]⟩,.agg ⟨[vJ 1,vI 2,vI 0,vI 0,vJ 547,vJ 547]⟩],.agg ⟨[vJ 50,vI 51,vI 0,vI 0,vI 16602,vI 16602]⟩⟩
theorem kKnown466:KKnown466.Ok Try.prog:=CF.of2 noNG mixed (l:=[]) .nil 3000 (by kernel_rfl)
def KKnown467:CF:=⟨119,[.agg wKnown33,.agg ⟨[vI 0,vI 0,vI 0,vI 0,vJ 97,vJ 97]⟩],.agg wKnown34⟩
theorem kKnown467:KKnown467.Ok Try.prog:=CF.of2 noNG mixed (l:=[KKnown465,KKnown466]) (.cons kKnown465 (.cons kKnown466 .nil)) 3000 (by kernel_rfl)
def KKnown501:CF:=⟨31,[],.agg wKnown40⟩
theorem kKnown501:KKnown501.Ok Try.prog:=CF.of2 noNG mixed (l:=[]) .nil 3000 (by kernel_rfl)
def KKnown502:CF:=⟨26,[vI 5000,vI 5000],.agg ⟨[vI 5000,vI 5000]⟩⟩
theorem kKnown502:KKnown502.Ok Try.prog:=CF.of2 noNG mixed (l:=[]) .nil 3000 (by kernel_rfl)
def KKnown504:CF:=⟨26,[vI 10000,vI 10000],.agg ⟨[vI 10000,vI 10000]⟩⟩
theorem kKnown504:KKnown504.Ok Try.prog:=CF.of2 noNG mixed (l:=[]) .nil 3000 (by kernel_rfl)
def KKnown505:CF:=⟨45,[lstV wKnown39 0 1 13],.tuple ⟨[vI 0,vI 0]⟩⟩
theorem kKnown505:KKnown505.Ok Try.prog:=CF.of2 noNG mixed (l:=[KKnown4]) (.cons kKnown4 .nil) 3000 (by kernel_rfl)
def KKnown506:CF:=⟨13,[.agg wKnown40],.tuple ⟨[vI 0,vI 0,vI 0]⟩⟩
theorem kKnown506:KKnown506.Ok Try.prog:=CF.of2 noNG mixed (l:=[KKnown505,KKnown3]) (.cons kKnown505 (.cons kKnown3 .nil)) 3000 (by kernel_rfl)
def KKnown507:CF:=⟨63,[lstV ⟨[vI 0,vI 1000]⟩ 0 1 2],lstV ⟨[vI 0,vI 1000,vI 1000]⟩ 0 1 3⟩
theorem kKnown507:KKnown507.Ok Try.prog:=CF.of2 noNG mixed (l:=[]) .nil 3000 (by kernel_rfl)
def KKnown508:CF:=⟨66,[.agg wKnown40,.agg ⟨[vI 0,vI 0,vI 10000]⟩,lstV ⟨[vI 0,vI 100000,vI 300,vI 300,vI 0,vI 0]⟩ 0 1 6],.tuple ⟨[.agg wKnown41,vI 0]⟩⟩
theorem kKnown508:KKnown508.Ok Try.prog:=CF.of2 noNG mixed (l:=[KKnown8,KKnown506,KKnown507,KKnown7]) (.cons kKnown8 (.cons kKnown506 (.cons kKnown507 (.cons kKnown7 .nil)))) 3000 (by kernel_rfl)
def KKnown509:CF:=⟨86,[.agg ⟨[vI 0,vI 0,vI 0,vI 0,vI 5000,vI 5000]⟩,vI 2000000000],vT⟩
theorem kKnown509:KKnown509.Ok Try.prog:=CF.of2 noNG mixed (l:=[]) .nil 3000 (by kernel_rfl)
def KKnown512:CF:=⟨97,[.agg wKnown41,.agg wKnown43],.agg ⟨[vI 0,vI 0,vI 0,vI 0,vI 0,vI 0]⟩⟩
theorem kKnown512:KKnown512.Ok Try.prog:=CF.of2 noNG mixed (l:=[KKnown33,KKnown35,KKnown37]) (.cons kKnown33 (.cons kKnown35 (.cons kKnown37 .nil))) 3000 (by kernel_rfl)
def KKnown513:CF:=⟨55,[lstV wKnown2 0 2 7,.agg ⟨[vI 5000,vI 5000]⟩,.func (.func 57) ⟨[]⟩ ⟨[]⟩],.agg ⟨[vI 300,vI 300,vI 0,vI 0,vI 0,vI 0]⟩⟩
theorem kKnown513:KKnown513.Ok Try.prog:=CF.of2 noNG mixed (l:=[]) .nil 3000 (by kernel_rfl)
def KKnown536:CF:=⟨104,[.agg wKnown3,.agg ⟨[vI 0,vI 0,vI 0,vI 0,vI 0,vI 0,vI 0,vI 0,vI 0,vI 0,vI 0,vI 0]⟩,vI 0,vI 3000,.func (.func 70) ⟨[lstV wKnown0 0 1 13]⟩ ⟨[]⟩],.func (.func 118) ⟨[]⟩ wKnown45⟩
theorem kKnown536:KKnown536.Ok Try.prog:=CF.of2 noNG mixed (l:=[]) .nil 3000 (by kernel_rfl)
def KKnown537:CF:=⟨72,[.agg wKnown3,vI 3000],.func (.func 118) ⟨[]⟩ wKnown45⟩
theorem kKnown537:KKnown537.Ok Try.prog:=CF.of2 noNG mixed (l:=[KKnown536]) (.cons kKnown536 .nil) 3000 (by kernel_rfl)
def KKnown538:CF:=⟨86,[.agg ⟨[vJ 50,vI 51,vI 0,vI 0,vI 16602,vI 16602]⟩,vI 2000000000],vT⟩
theorem kKnown538:KKnown538.Ok Try.prog:=CF.of2 noNG mixed (l:=[]) .nil 3000 (by kernel_rfl)
def KKnown539:CF:=⟨86,[.agg ⟨[vJ 1,vI 2,vI 0,vI 0,vJ 547,vJ 547]⟩,vI 1000000],vT⟩
theorem kKnown539:KKnown539.Ok Try.prog:=CF.of2 noNG mixed (l:=[]) .nil 3000 (by kernel_rfl)
def KKnown540:CF:=⟨68,[.agg wKnown34],vF⟩
theorem kKnown540:KKnown540.Ok Try.prog:=CF.of2 noNG mixed (l:=[KKnown538,KKnown539]) (.cons kKnown538 (.cons kKnown539 .nil)) 3000 (by kernel_rfl)
def KKnown541:CF:=⟨70,[lstV wKnown0 0 1 13,vI 26],.agg ⟨[vI 0,vI 0,vI 0,vI 10,vI 10,vI 0,vI 0,vI 0,vI 0,vI 0,vI 0,vI 0,vI 0]⟩⟩
theorem kKnown541:KKnown541.Ok Try.prog:=CF.of2 noNG mixed (l:=[]) .nil 3000 (by kernel_rfl)
def KKnown542:CF:=⟨55,[lstV wKnown2 0 2 7,.agg ⟨[vI 16602,vI 16602]⟩,.func (.func 57) ⟨[]⟩ ⟨[]⟩],.agg ⟨[vI 300,vI 300,vI 0,vI 0,vI 0,vI 0]⟩⟩
theorem kKnown542:KKnown542.Ok Try.prog:=CF.of2 noNG mixed (l:=[]) .nil 3000 (by kernel_rfl)
def KKnown543:CF:=⟨91,[.agg ⟨[vJ 1,vI 2,vI 0,vI 0,vJ 547,vJ 547]⟩,.func (.func 98) ⟨[]⟩ ⟨[]⟩,.agg ⟨[vI 300,vI 300,vI 0,vI 0,vI 0,vI 0]⟩],.agg ⟨[vJ 301,vJ 297,vI 0,vI 0,vJ 547,vJ 547]⟩⟩
theorem kKnown543:KKnown543.Ok Try.prog:=CF.of2 noNG mixed (l:=[]) .nil 3000 (by kernel_rfl)
def KKnown544:CF:=⟨125,[.agg ⟨[vI 389108,vI 391508]⟩],.agg ⟨[vI 623,vI 626]⟩⟩
theorem kKnown544:KKnown544.Ok Try.prog:=CF.of2 noNG mixed (l:=[]) .nil 3000 (by kernel_rfl)
def KKnown545:CF:=⟨116,[.agg ⟨[vJ 301,vJ 297,vI 0,vI 0,vJ 547,vJ 547]⟩],.agg ⟨[vI 623,vI 626]⟩⟩
theorem kKnown545:KKnown545.Ok Try.prog:=CF.of2 noNG mixed (l:=[KKnown544]) (.cons kKnown544 .nil) 3000 (by kernel_rfl)
def KKnown546:CF:=⟨91,[.agg ⟨[vJ 301,vJ 297,vI 0,vI 0,vJ 547,vJ 547]⟩,.func (.func 111) ⟨[]⟩ ⟨[]⟩,.agg ⟨[vI 0,vI 0,vI 0,vI 0,vI 0,vI 0]⟩],.agg ⟨[vI 0,vI 0,vI 0,vI 0,vI 0,vI 0]⟩⟩
theorem kKnown546:KKnown546.Ok Try.prog:=CF.of2 noNG mixed (l:=[]) .nil 3000 (by kernel_rfl)
def KKnown547:CF:=⟨112,[.agg ⟨[vJ 301,vJ 297,vI 0,vI 0,vJ 547,vJ 547]⟩,.func (.func 111) ⟨[]⟩ ⟨[]⟩,.agg ⟨[vI 0,vI 0]⟩],.agg ⟨[vI 0,vI 0,vI 0,vI 0,vI 0,vI 0]⟩⟩
theorem kKnown547:KKnown547.Ok Try.prog:=CF.of2 noNG mixed (l:=[KKnown546]) (.cons kKnown546 .nil) 3000 (by kernel_rfl)
def KKnown548:CF:=⟨99,[.agg wKnown5,.agg ⟨[vI 0,vI 0,vI 0,vI 10,vI 10,vI 0,vI 0,vI 0,vI 0,vI 0,vI 0,vI 0,vI 0]⟩,.agg wKnown34],.agg ⟨[vI 0,vI 0,vI 0,vI 0,vI 0,vI 0]⟩⟩
theorem kKnown548:KKnown548.Ok Try.prog:=CF.of2 noNG mixed (l:=[KKnown545,KKnown547,KKnown27,KKnown542,KKnown543]) (.cons kKnown545 (.cons kKnown547 (.cons kKnown27 (.cons kKnown542 (.cons kKnown543 .nil))))) 3000 (by kernel_rfl)
def KKnown549:CF:=⟨69,[.agg wKnown5,.agg ⟨[vI 0,vI 0,vI 0,vI 10,vI 10,vI 0,vI 0,vI 0,vI 0,vI 0,vI 0,vI 0,vI 0]⟩,.agg wKnown34],.agg ⟨[vI 0,vI 0,vI 0,vI 0,vJ 97,vJ 97]⟩⟩
theorem kKnown549:KKnown549.Ok Try.prog:=CF.of2 noNG mixed (l:=[KKnown40,KKnown41,KKnown548,KKnown77]) (.cons kKnown40 (.cons kKnown41 (.cons kKnown548 (.cons kKnown77 .nil)))) 3000 (by kernel_rfl)
def KKnown550:CF:=⟨91,[.agg ⟨[vJ 1,vI 2,vI 0,vI 0,vJ 547,vJ 547]⟩,.func (.func 105) ⟨[]⟩ ⟨[]⟩,.agg ⟨[vI 0,vI 0,vI 0,vI 0,vJ 97,vJ 97]⟩],.agg ⟨[vJ 1,vI 2,vI 0,vI 0,vJ 645,vJ 645]⟩⟩
theorem kKnown550:KKnown550.Ok Try.prog:=CF.of2 noNG mixed (l:=[]) .nil 3000 (by kernel_rfl)
def KKnown551:CF:=⟨91,[.agg ⟨[vJ 50,vI 51,vI 0,vI 0,vI 16602,vI 16602]⟩,.func (.func 105) ⟨[]⟩ ⟨[]⟩,.agg ⟨[vJ 1,vI 2,vI 0,vI 0,vJ 645,vJ 645]⟩],.agg ⟨[vJ 52,vI 53,vI 0,vI 0,vI 15956,vI 15956]⟩⟩
theorem kKnown551:KKnown551.Ok Try.prog:=CF.of2 noNG mixed (l:=[]) .nil 3000 (by kernel_rfl)
def KKnown552:CF:=⟨119,[.agg wKnown34,.agg ⟨[vI 0,vI 0,vI 0,vI 0,vJ 97,vJ 97]⟩],.agg wKnown46⟩
theorem kKnown552:KKnown552.Ok Try.prog:=CF.of2 noNG mixed (l:=[KKnown550,KKnown551]) (.cons kKnown550 (.cons kKnown551 .nil)) 3000 (by kernel_rfl)
def KKnown553:CF:=⟨86,[.agg ⟨[vJ 52,vI 53,vI 0,vI 0,vI 15956,vI 15956]⟩,vI 2000000000],vT⟩
theorem kKnown553:KKnown553.Ok Try.prog:=CF.of2 noNG mixed (l:=[]) .nil 3000 (by kernel_rfl)
def KKnown554:CF:=⟨86,[.agg ⟨[vJ 1,vI 2,vI 0,vI 0,vJ 645,vJ 645]⟩,vI 1000000],vT⟩
theorem kKnown554:KKnown554.Ok Try.prog:=CF.of2 noNG mixed (l:=[]) .nil 3000 (by kernel_rfl)
def KKnown555:CF:=⟨68,[.agg wKnown46],vF⟩
theorem kKnown555:KKnown555.Ok Try.prog:=CF.of2 noNG mixed (l:=[KKnown553,KKnown554]) (.cons kKnown553 (.cons kKnown554 .nil)) 3000 (by kernel_rfl)
def KKnown556:CF:=⟨70,[lstV wKnown0 0 1 13,vI 27],.agg ⟨[vI 0,vI 0,vI 0,vI 10,vI 10,vI 0,vI 0,vI 0,vI 0,vI 0,vI 0,vI 0,vI 0]⟩⟩
theorem kKnown556:KKnown556.Ok Try.prog:=CF.of2 noNG mixed (l:=[]) .nil 3000 (by kernel_rfl)
def KKnown557:CF:=⟨55,[lstV wKnown2 0 2 7,.agg ⟨[vI 15956,vI 15956]⟩,.func (.func 57) ⟨[]⟩ ⟨[]⟩],.agg ⟨[vI 300,vI 300,vI 0,vI 0,vI 0,vI 0]⟩⟩
theorem kKnown557:KKnown557.Ok Try.prog:=CF.of2 noNG mixed (l:=[]) .nil 3000 (by kernel_rfl)
def KKnown558:CF:=⟨91,[.agg ⟨[vJ 1,vI 2,vI 0,vI 0,vJ 645,vJ 645]⟩,.func (.func 98) ⟨[]⟩ ⟨[]⟩,.agg ⟨[vI 300,vI 300,vI 0,vI 0,vI 0,vI 0]⟩],.agg ⟨[vJ 301,vJ 297,vI 0,vI 0,vJ 645,vJ 645]⟩⟩
theorem kKnown558:KKnown558.Ok Try.prog:=CF.of2 noNG mixed (l:=[]) .nil 3000 (by kernel_rfl)
def KKnown559:CF:=⟨125,[.agg ⟨[vI 506120,vI 508520]⟩],.agg ⟨[vI 711,vI 714]⟩⟩
theorem kKnown559:KKnown559.Ok Try.prog:=CF.of2 noNG mixed (l:=[]) .nil 3000 (by kernel_rfl)
def KKnown560:CF:=⟨116,[.agg ⟨[vJ 301,vJ 297,vI 0,vI 0,vJ 645,vJ 645]⟩],.agg ⟨[vI 711,vI 714]⟩⟩
theorem kKnown560:KKnown560.Ok Try.prog:=CF.of2 noNG mixed (l:=[KKnown559]) (.cons kKnown559 .nil) 3000 (by kernel_rfl)
def KKnown561:CF:=⟨91,[.agg ⟨[vJ 301,vJ 297,vI 0,vI 0,vJ 645,vJ 645]⟩,.func (.func 111) ⟨[]⟩ ⟨[]⟩,.agg ⟨[vI 0,vI 0,vI 0,vI 0,vI 0,vI 0]⟩],.agg ⟨[vI 0,vI 0,vI 0,vI 0,vI 0,vI 0]⟩⟩
theorem kKnown561:KKnown561.Ok Try.prog:=CF.of2 noNG mixed (l:=[]) .nil 3000 (by kernel_rfl)
def KKnown562:CF:=⟨112,[.agg ⟨[vJ 301,vJ 297,vI 0,vI 0,vJ 645,vJ 645]⟩,.func (.func 111) ⟨[]⟩ ⟨[]⟩,.agg ⟨[vI 0,vI 0]⟩],.agg ⟨[vI 0,vI 0,vI 0,vI 0,vI 0,vI 0]⟩⟩
theorem kKnown562:KKnown562.Ok Try.prog:=CF.of2 noNG mixed (l:=[KKnown561]) (.cons kKnown561 .nil) 3000 (by kernel_rfl)
def KKnown563:CF:=⟨99,[.agg wKnown5,.agg ⟨[vI 0,vI 0,vI 0,vI 10,vI 10,vI 0,vI 0,vI 0,vI 0,vI 0,vI 0,vI 0,vI 0]⟩,.agg wKnown46],.agg ⟨[vI 0,vI 0,vI 0,vI 0,vI 0,vI 0]⟩⟩
theorem kKnown563:KKnown563.Ok Try.prog:=CF.of2 noNG mixed (l:=[KKnown557,KKnown558,KKnown560,KKnown562,KKnown27]) (.cons kKnown557 (.cons kKnown558 (.cons kKnown560 (.cons kKnown562 (.cons kKnown27 .nil))))) 3000 (by kernel_rfl)
def KKnown564:CF:=⟨69,[.agg wKnown5,.agg ⟨[vI 0,vI 0,vI 0,vI 10,vI 10,vI 0,vI 0,vI 0,vI 0,vI 0,vI 0,vI 0,vI 0]⟩,.agg wKnown46],.agg ⟨[vI 0,vI 0,vI 0,vI 0,vJ 97,vJ 97]⟩⟩
theorem kKnown564:KKnown564.Ok Try.prog:=CF.of2 noNG mixed (l:=[KKnown40,KKnown41,KKnown563,KKnown77]) (.cons kKnown40 (.cons kKnown41 (.cons kKnown563 (.cons kKnown77 .nil)))) 3000 (by kernel_rfl)
def KKnown565:CF:=⟨91,[.agg ⟨[vJ 1,vI 2,vI 0,vI 0,vJ 645,vJ 645]⟩,.func (.func 105) ⟨[]⟩ ⟨[]⟩,.agg ⟨[vI 0,vI 0,vI 0,vI 0,vJ 97,vJ 97]⟩],.agg ⟨[vJ 1,vI 2,vI 0,vI 0,vJ 743,vJ 743]⟩⟩
theorem kKnown565:KKnown565.Ok Try.prog:=CF.of2 noNG mixed (l:=[]) .nil 3000 (by kernel_rfl)
def KKnown566:CF:=⟨91,[.agg ⟨[vJ 52,vI 53,vI 0,vI 0,vI 15956,vI 15956]⟩,.func (.func 105) ⟨[]⟩ ⟨[]⟩,.agg ⟨[vJ 1,vI 2,vI 0,vI 0,vJ 743,vJ 743]⟩],.agg ⟨[vJ 54,vI 55,vI 0,vI 0,vI 15212,vI 15212]⟩⟩
theorem kKnown566:KKnown566.Ok Try.prog:=CF.of2 noNG mixed (l:=[]) .nil 3000 (by kernel_rfl)
def KKnown567:CF:=⟨119,[.agg wKnown46,.agg ⟨[vI 0,vI 0,vI 0,vI 0,vJ 97,vJ 97]⟩],.agg wKnown47⟩
theorem kKnown567:KKnown567.Ok Try.prog:=CF.of2 noNG mixed (l:=[KKnown565,KKnown566]) (.cons kKnown565 (.cons kKnown566 .nil)) 3000 (by kernel_rfl)
def KKnown568:CF:=⟨86,[.agg ⟨[vJ 54,vI 55,vI 0,vI 0,vI 15212,vI 15212]⟩,vI 2000000000],vT⟩
theorem kKnown568:KKnown568.Ok Try.prog:=CF.of2 noNG mixed (l:=[]) .nil 3000 (by kernel_rfl)
def KKnown569:CF:=⟨86,[.agg ⟨[vJ 1,vI 2,vI 0,vI 0,vJ 743,vJ 743]⟩,vI 1000000],vT⟩
theorem kKnown569:KKnown569.Ok Try.prog:=CF.of2 noNG mixed (l:=[]) .nil 3000 (by kernel_rfl)
def KKnown570:CF:=⟨68,[.agg wKnown47],vF⟩
theorem kKnown570:KKnown570.Ok Try.prog:=CF.of2 noNG mixed (l:=[KKnown568,KKnown569]) (.cons kKnown568 (.cons kKnown569 .nil)) 3000 (by kernel_rfl)
def KKnown571:CF:=⟨70,[lstV wKnown0 0 1 13,vI 28],.agg ⟨[vI 0,vI 0,vI 0,vI 10,vI 10,vI 0,vI 0,vI 0,vI 0,vI 0,vI 0,vI 0,vI 0]⟩⟩
theorem kKnown571:KKnown571.Ok Try.prog:=CF.of2 noNG mixed (l:=[]) .nil 3000 (by kernel_rfl)
def KKnown572:CF:=⟨55,[lstV wKnown2 0 2 7,.agg ⟨[vI 15212,vI 15212]⟩,.func (.func 57) ⟨[]⟩ ⟨[]⟩],.agg ⟨[vI 300,vI 300,vI 0,vI 0,vI 0,vI 0]⟩⟩
theorem kKnown572:KKnown572.Ok Try.prog:=CF.of2 noNG mixed (l:=[]) .nil 3000 (by kernel_rfl)
def KKnown573:CF:=⟨91,[.agg ⟨[vJ 1,vI 2,vI 0,vI 0,vJ 743,vJ 743]⟩,.func (.func 98) ⟨[]⟩ ⟨[]⟩,.agg ⟨[vI 300,vI 300,vI 0,vI 0,vI 0,vI 0]⟩],.agg ⟨[vJ 301,vJ 297,vI 0,vI 0,vJ 743,vJ 743]⟩⟩
theorem kKnown573:KKnown573.Ok Try.prog:=CF.of2 noNG mixed (l:=[]) .nil 3000 (by kernel_rfl)
def KKnown574:CF:=⟨125,[.agg ⟨[vI 642340,vI 644740]⟩],.agg ⟨[vI 801,vI 803]⟩⟩
theorem kKnown574:KKnown574.Ok Try.prog:=CF.of2 noNG mixed (l:=[]) .nil 3000 (by kernel_rfl)
def KKnown575:CF:=⟨116,[.agg ⟨[vJ 301,vJ 297,vI 0,vI 0,vJ 743,vJ 743]⟩],.agg ⟨[vI 801,vI 803]⟩⟩
theorem kKnown575:KKnown575.Ok Try.prog:=CF.of2 noNG mixed (l:=[KKnown574]) (.cons kKnown574 .nil) 3000 (by kernel_rfl)
def KKnown576:CF:=⟨91,[.agg ⟨[vJ 301,vJ 297,vI 0,vI 0,vJ 743,vJ 743]⟩,.func (.func 111) ⟨[]⟩ ⟨[]⟩,.agg ⟨[vI 0,vI 0,vI 0,vI 0,vI 0,vI 0]⟩],.agg ⟨[vI 0,vI 0,vI 0,vI 0,vI 0,vI 0]⟩⟩
theorem kKnown576:KKnown576.Ok Try.prog:=CF.of2 noNG mixed (l:=[]) .nil 3000 (by kernel_rfl)
def KKnown577:CF:=⟨112,[.agg ⟨[vJ 301,vJ 297,vI 0,vI 0,vJ 743,vJ 743]⟩,.func (.func 111) ⟨[]⟩ ⟨[]⟩,.agg ⟨[vI 0,vI 0]⟩],.agg ⟨[vI 0,vI 0,vI 0,vI 0,vI 0,vI 0]⟩⟩
theorem kKnown577:KKnown577.Ok Try.prog:=CF.of2 noNG mixed (l:=[KKnown576]) (.cons kKnown576 .nil) 3000 (by kernel_rfl)
def KKnown578:CF:=⟨99,[.agg wKnown5,.agg ⟨[vI 0,vI 0,vI 0,vI 10,vI 10,vI 0,vI 0,vI 0,vI 0,vI 0,vI 0,vI 0,vI 0]⟩,.agg wKnown47],.agg ⟨[vI 0,vI 0,vI 0,vI 0,vI 0,vI 0]⟩⟩
theorem kKnown578:KKnown578.Ok Try.prog:=CF.of2 noNG mixed (l:=[KKnown577,KKnown27,KKnown572,KKnown573,KKnown575]) (.cons kKnown577 (.cons kKnown27 (.cons kKnown572 (.cons kKnown573 (.cons kKnown575 .nil))))) 3000 (by kernel_rfl)
def KKnown579:CF:=⟨69,[.agg wKnown5,.agg ⟨[vI 0,vI 0,vI 0,vI 10,vI 10,vI 0,vI 0,vI 0,vI 0,vI 0,vI 0,vI 0,vI 0]⟩,.agg wKnown47],.agg ⟨[vI 0,vI 0,vI 0,vI 0,vJ 97,vJ 97]⟩⟩
theorem kKnown579:KKnown579.Ok Try.prog:=CF.of2 noNG mixed (l:=[KKnown40,KKnown41,KKnown578,KKnown77]) (.cons kKnown40 (.cons kKnown41 (.cons kKnown578 (.cons kKnown77 .nil)))) 3000 (by kernel_rfl)
def KKnown580:CF:=⟨91,[.agg ⟨[vJ 1,vI 2,vI 0,vI 0,vJ 743,vJ 743]⟩,.func (.func 105) ⟨[]⟩ ⟨[]⟩,.agg ⟨[vI 0,vI 0,vI 0,vI 0,vJ 97,vJ 97]⟩],.agg ⟨[vJ 1,vI 2,vI 0,vI 0,vJ 841,vJ 841]⟩⟩
theorem kKnown580:KKnown580.Ok Try.prog:=CF.of2 noNG mixed (l:=[]) .nil 3000 (by kernel_rfl)
def KKnown581:CF:=⟨91,[.agg ⟨[vJ 54,vI 55,vI 0,vI 0,vI 15212,vI 15212]⟩,.func (.func 105) ⟨[]⟩ ⟨[]⟩,.agg ⟨[vJ 1,vI 2,vI 0,vI 0,vJ 841,vJ 841]⟩],.agg ⟨[vJ 56,vI 57,vI 0,vI 0,vI 14370,vI 14370]⟩⟩
theorem kKnown581:KKnown581.Ok Try.prog:=CF.of2 noNG mixed (l:=[]) .nil 3000 (by kernel_rfl)
def KKnown582:CF:=⟨119,[.agg wKnown47,.agg ⟨[vI 0,vI 0,vI 0,vI 0,vJ 97,vJ 97]⟩],.agg wKnown48⟩
theorem kKnown582:KKnown582.Ok Try.prog:=CF.of2 noNG mixed (l:=[KKnown580,KKnown581]) (.cons kKnown580 (.cons kKnown581 .nil)) 3000 (by kernel_rfl)
def KKnown583:CF:=⟨86,[.agg ⟨[vJ 56,vI 57,vI 0,vI 0,vI 14370,vI 14370]⟩,vI 2000000000],vT⟩
theorem kKnown583:KKnown583.Ok Try.prog:=CF.of2 noNG mixed (l:=[]) .nil 3000 (by kernel_rfl)
def KKnown584:CF:=⟨86,[.agg ⟨[vJ 1,vI 2,vI 0,vI 0,vJ 841,vJ 841]⟩,vI 1000000],vT⟩
theorem kKnown584:KKnown584.Ok Try.prog:=CF.of2 noNG mixed (l:=[]) .nil 3000 (by kernel_rfl)
def KKnown585:CF:=⟨68,[.agg wKnown48],vF⟩
theorem kKnown585:KKnown585.Ok Try.prog:=CF.of2 noNG mixed (l:=[KKnown584,KKnown583]) (.cons kKnown584 (.cons kKnown583 .nil)) 3000 (by kernel_rfl)
def KKnown586:CF:=⟨70,[lstV wKnown0 0 1 13,vI 29],.agg ⟨[vI 0,vI 0,vI 0,vI 10,vI 10,vI 0,vI 0,vI 0,vI 0,vI 0,vI 0,vI 0,vI 0]⟩⟩
theorem kKnown586:KKnown586.Ok Try.prog:=CF.of2 noNG mixed (l:=[]) .nil 3000 (by kernel_rfl)
def KKnown587:CF:=⟨55,[lstV wKnown2 0 2 7,.agg ⟨[vI 14370,vI 14370]⟩,.func (.func 57) ⟨[]⟩ ⟨[]⟩],.agg ⟨[vI 300,vI 300,vI 0,vI 0,vI 0,vI 0]⟩⟩
theorem kKnown587:KKnown587.Ok Try.prog:=CF.of2 noNG mixed (l:=[]) .nil 3000 (by kernel_rfl)
def KKnown588:CF:=⟨91,[.agg ⟨[vJ 1,vI 2,vI 0,vI 0,vJ 841,vJ 841]⟩,.func (.func 98) ⟨[]⟩ ⟨[]⟩,.agg ⟨[vI 300,vI 300,vI 0,vI 0,vI 0,vI 0]⟩],.agg ⟨[vJ 301,vJ 297,vI 0,vI 0,vJ 841,vJ 841]⟩⟩
theorem kKnown588:KKnown588.Ok Try.prog:=CF.of2 noNG mixed (l:=[]) .nil 3000 (by kernel_rfl)
def KKnown589:CF:=⟨125,[.agg ⟨[vI 797768,vI 800168]⟩],.agg ⟨[vI 893,vI 895]⟩⟩
theorem kKnown589:KKnown589.Ok Try.prog:=CF.of2 noNG mixed (l:=[]) .nil 3000 (by kernel_rfl)
def KKnown590:CF:=⟨116,[.agg ⟨[vJ 301,vJ 297,vI 0,vI 0,vJ 841,vJ 841]⟩],.agg ⟨[vI 893,vI 895]⟩⟩
theorem kKnown590:KKnown590.Ok Try.prog:=CF.of2 noNG mixed (l:=[KKnown589]) (.cons kKnown589 .nil) 3000 (by kernel_rfl)
def KKnown591:CF:=⟨91,[.agg ⟨[vJ 301,vJ 297,vI 0,vI 0,vJ 841,vJ 841]⟩,.func (.func 111) ⟨[]⟩ ⟨[]⟩,.agg ⟨[vI 0,vI 0,vI 0,vI 0,vI 0,vI 0]⟩],.agg ⟨[vI 0,vI 0,vI 0,vI 0,vI 0,vI 0]⟩⟩
theorem kKnown591:KKnown591.Ok Try.prog:=CF.of2 noNG mixed (l:=[]) .nil 3000 (by kernel_rfl)
def KKnown592:CF:=⟨112,[.agg ⟨[vJ 301,vJ 297,vI 0,vI 0,vJ 841,vJ 841]⟩,.func (.func 111) ⟨[]⟩ ⟨[]⟩,.agg ⟨[vI 0,vI 0]⟩],.agg ⟨[vI 0,vI 0,vI 0,vI 0,vI 0,vI 0]⟩⟩
theorem kKnown592:KKnown592.Ok Try.prog:=CF.of2 noNG mixed (l:=[KKnown591]) (.cons kKnown591 .nil) 3000 (by kernel_rfl)
def KKnown593:CF:=⟨99,[.agg wKnown5,.agg ⟨[vI 0,vI 0,vI 0,vI 10,vI 10,vI 0,vI 0,vI 0,vI 0,vI 0,vI 0,vI 0,vI 0]⟩,.agg wKnown48],.agg ⟨[vI 0,vI 0,vI 0,vI 0,vI 0,vI 0]⟩⟩
theorem kKnown593:KKnown593.Ok Try.prog:=CF.of2 noNG mixed (l:=[KKnown587,KKnown588,KKnown590,KKnown592,KKnown27]) (.cons kKnown587 (.cons kKnown588 (.cons kKnown590 (.cons kKnown592 (.cons kKnown27 .nil))))) 3000 (by kernel_rfl)
def KKnown594:CF:=⟨69,[.agg wKnown5,.agg ⟨[vI 0,vI 0,vI 0,vI 10,vI 10,vI 0,vI 0,vI 0,vI 0,vI 0,vI 0,vI 0,vI 0]⟩,.agg wKnown48],.agg ⟨[vI 0,vI 0,vI 0,vI 0,vJ 97,vJ 97]⟩⟩
theorem kKnown594:KKnown594.Ok Try.prog:=CF.of2 noNG mixed (l:=[KKnown40,KKnown593,KKnown77,KKnown41]) (.cons kKnown40 (.cons kKnown593 (.cons kKnown77 (.cons kKnown41 .nil)))) 3000 (by kernel_rfl)
def KKnown595:CF:=⟨91,[.agg ⟨[vJ 1,vI 2,vI 0,vI 0,vJ 841,vJ 841]⟩,.func (.func 105) ⟨[]⟩ ⟨[]⟩,.agg ⟨[vI 0,vI 0,vI 0,vI 0,vJ 97,vJ 97]⟩],.agg ⟨[vJ 1,vI 2,vI 0,vI 0,vJ 939,vJ 939]⟩⟩
theorem kKnown595:KKnown595.Ok Try.prog:=CF.of2 noNG mixed (l:=[]) .nil 3000 (by kernel_rfl)
def KKnown596:CF:=⟨91,[.agg ⟨[vJ 56,vI 57,vI 0,vI 0,vI 14370,vI 14370]⟩,.func (.func 105) ⟨[]⟩ ⟨[]⟩,.agg ⟨[vJ 1,vI 2,vI 0,vI 0,vJ 939,vJ 939]⟩],.agg ⟨[vJ 58,vI 59,vI 0,vI 0,vI 13430,vI 13430]⟩⟩
theorem kKnown596:KKnown596.Ok Try.prog:=CF.of2 noNG mixed (l:=[]) .nil 3000 (by kernel_rfl)
def KKnown597:CF:=⟨119,[.agg wKnown48,.agg ⟨[vI 0,vI 0,vI 0,vI 0,vJ 97,vJ 97]⟩],.agg wKnown49⟩
theorem kKnown597:KKnown597.Ok Try.prog:=CF.of2 noNG mixed (l:=[KKnown595,KKnown596]) (.cons kKnown595 (.cons kKnown596 .nil)) 3000 (by kernel_rfl)
def KKnown598:CF:=⟨86,[.agg ⟨[vJ 58,vI 59,vI 0,vI 0,vI 13430,vI 13430]⟩,vI 2000000000],vT⟩
theorem kKnown598:KKnown598.Ok Try.prog:=CF.of2 noNG mixed (l:=[]) .nil 3000 (by kernel_rfl)
def KKnown599:CF:=⟨86,[.agg ⟨[vJ 1,vI 2,vI 0,vI 0,vJ 939,vJ 939]⟩,vI 1000000],vT⟩
theorem kKnown599:KKnown599.Ok Try.prog:=CF.of2 noNG mixed (l:=[]) .nil 3000 (by kernel_rfl)
def KKnown600:CF:=⟨68,[.agg wKnown49],vF⟩
theorem kKnown600:KKnown600.Ok Try.prog:=CF.of2 noNG mixed (l:=[KKnown598,KKnown599]) (.cons kKnown598 (.cons kKnown599 .nil)) 3000 (by kernel_rfl)
def KKnown601:CF:=⟨70,[lstV wKnown0 0 1 13,vI 30],.agg ⟨[vI 0,vI 0,vI 0,vI 10,vI 10,vI 0,vI 0,vI 0,vI 0,vI 0,vI 0,vI 0,vI 0]⟩⟩
theorem kKnown601:KKnown601.Ok Try.prog:=CF.of2 noNG mixed (l:=[]) .nil 3000 (by kernel_rfl)
def KKnown602:CF:=⟨55,[lstV wKnown2 0 2 7,.agg ⟨[vI 13430,vI 13430]⟩,.func (.func 57) ⟨[]⟩ ⟨[]⟩],.agg ⟨[vI 300,vI 300,vI 0,vI 0,vI 0,vI 0]⟩⟩
theorem kKnown602:KKnown602.Ok Try.prog:=CF.of2 noNG mixed (l:=[]) .nil 3000 (by kernel_rfl)
def KKnown603:CF:=⟨91,[.agg ⟨[vJ 1,vI 2,vI 0,vI 0,vJ 939,vJ 939]⟩,.func (.func 98) ⟨[]⟩ ⟨[]⟩,.agg ⟨[vI 300,vI 300,vI 0,vI 0,vI 0,vI 0]⟩],.agg ⟨[vJ 301,vJ 297,vI 0,vI 0,vJ 939,vJ 939]⟩⟩
theorem kKnown603:KKnown603.Ok Try.prog:=CF.of2 noNG mixed (l:=[]) .nil 3000 (by kernel_rfl)
def KKnown604:CF:=⟨125,[.agg ⟨[vI 972404,vI 974804]⟩],.agg ⟨[vI 986,vI 988]⟩⟩
theorem kKnown604:KKnown604.Ok Try.prog:=CF.of2 noNG mixed (l:=[]) .nil 3000 (by kernel_rfl)
def KKnown605:CF:=⟨116,[.agg ⟨[vJ 301,vJ 297,vI 0,vI 0,vJ 939,vJ 939]⟩],.agg ⟨[vI 986,vI 988]⟩⟩
theorem kKnown605:KKnown605.Ok Try.prog:=CF.of2 noNG mixed (l:=[KKnown604]) (.cons kKnown604 .nil) 3000 (by kernel_rfl)
def KKnown606:CF:=⟨91,[.agg ⟨[vJ 301,vJ 297,vI 0,vI 0,vJ 939,vJ 939]⟩,.func (.func 111) ⟨[]⟩ ⟨[]⟩,.agg ⟨[vI 0,vI 0,vI 0,vI 0,vI 0,vI 0]⟩],.agg ⟨[vI 0,vI 0,vI 0,vI 0,vI 0,vI 0]⟩⟩
theorem kKnown606:KKnown606.Ok Try.prog:=CF.of2 noNG mixed (l:=[]) .nil 3000 (by kernel_rfl)
def KKnown607:CF:=⟨112,[.agg ⟨[vJ 301,vJ 297,vI 0,vI 0,vJ 939,vJ 939]⟩,.func (.func 111) ⟨[]⟩ ⟨[]⟩,.agg ⟨[vI 0,vI 0]⟩],.agg ⟨[vI 0,vI 0,vI 0,vI 0,vI 0,vI 0]⟩⟩
theorem kKnown607:KKnown607.Ok Try.prog:=CF.of2 noNG mixed (l:=[KKnown606]) (.cons kKnown606 .nil) 3000 (by kernel_rfl)
def KKnown608:CF:=⟨99,[.agg wKnown5,.agg ⟨[vI 0,vI 0,vI 0,vI 10,vI 10,vI 0,vI 0,vI 0,vI 0,vI 0,vI 0,vI 0,vI 0]⟩,.agg wKnown49],.agg ⟨[vI 0,vI 0,vI 0,vI 0,vI 0,vI 0]⟩⟩
theorem kKnown608:KKnown608.Ok Try.prog:=CF.of2 noNG mixed (l:=[KKnown603,KKnown602,KKnown27,KKnown605,KKnown607]) (.cons kKnown603 (.cons kKnown602 (.cons kKnown27 (.cons kKnown605 (.cons kKnown607 .nil))))) 3000 (by kernel_rfl)
def KKnown609:CF:=⟨69,[.agg wKnown5,.agg ⟨[vI 0,vI 0,vI 0,vI 10,vI 10,vI 0,vI 0,vI 0,vI 0,vI 0,vI 0,vI 0,vI 0]⟩,.agg wKnown49],.agg ⟨[vI 0,vI 0,vI 0,vI 0,vJ 97,vJ 97]⟩⟩
theorem kKnown609:KKnown609.Ok Try.prog:=CF.of2 noNG mixed (l:=[KKnown608,KKnown41,KKnown40,KKnown77]) (.cons kKnown608 (.cons kKnown41 (.cons kKnown40 (.cons kKnown77 .nil)))) 3000 (by kernel_rfl)
def KKnown610:CF:=⟨91,[.agg ⟨[vJ 1,vI 2,vI 0,vI 0,vJ 939,vJ 939]⟩,.func (.func 105) ⟨[]⟩ ⟨[]⟩,.agg ⟨[vI 0,vI 0,vI 0,vI 0,vJ 97,vJ 97]⟩],.agg ⟨[vJ 1,vI 2,vI 0,vI 0,vJ 1037,vJ 1037]⟩⟩
theorem kKnown610:KKnown610.Ok Try.prog:=CF.of2 noNG mixed (l:=[]) .nil 3000 (by kernel_rfl)
def KKnown611:CF:=⟨91,[.agg ⟨[vJ 58,vI 59,vI 0,vI 0,vI 13430,vI 13430]⟩,.func (.func 105) ⟨[]⟩ ⟨[]⟩,.agg ⟨[vJ 1,vI 2,vI 0,vI 0,vJ 1037,vJ 1037]⟩],.agg ⟨[vJ 60,vI 61,vI 0,vI 0,vI 12392,vI 12392]⟩⟩
theorem kKnown611:KKnown611.Ok Try.prog:=CF.of2 noNG mixed (l:=[]) .nil 3000 (by kernel_rfl)
def KKnown612:CF:=⟨119,[.agg wKnown49,.agg ⟨[vI 0,vI 0,vI 0,vI 0,vJ 97,vJ 97]⟩],.agg wKnown50⟩
theorem kKnown612:KKnown612.Ok Try.prog:=CF.of2 noNG mixed (l:=[KKnown610,KKnown611]) (.cons kKnown610 (.cons kKnown611 .nil)) 3000 (by kernel_rfl)
def KKnown613:CF:=⟨86,[.agg ⟨[vJ 60,vI 61,vI 0,vI 0,vI 12392,vI 12392]⟩,vI 2000000000],vT⟩
theorem kKnown613:KKnown613.Ok Try.prog:=CF.of2 noNG mixed (l:=[]) .nil 3000 (by kernel_rfl)
def KKnown614:CF:=⟨86,[.agg ⟨[vJ 1,vI 2,vI 0,vI 0,vJ 1037,vJ 1037]⟩,vI 1000000],vT⟩
theorem kKnown614:KKnown614.Ok Try.prog:=CF.of2 noNG mixed (l:=[]) .nil 3000 (by kernel_rfl)
def KKnown615:CF:=⟨68,[.agg wKnown50],vF⟩
theorem kKnown615:KKnown615.Ok Try.prog:=CF.of2 noNG mixed (l:=[KKnown613,KKnown614]) (.cons kKnown613 (.cons kKnown614 .nil)) 3000 (by kernel_rfl)
def KKnown616:CF:=⟨70,[lstV wKnown0 0 1 13,vI 31],.agg ⟨[vI 0,vI 0,vI 0,vI 10,vI 10,vI 0,vI 0,vI 0,vI 0,vI 0,vI 0,vI 0,vI 0]⟩⟩
theorem kKnown616:KKnown616.Ok Try.prog:=CF.of2 noNG mixed (l:=[]) .nil 3000 (by kernel_rfl)
def KKnown617:CF:=⟨55,[lstV wKnown2 0 2 7,.agg ⟨[vI 12392,vI 12392]⟩,.func (.func 57) ⟨[]⟩ ⟨[]⟩],.agg ⟨[vI 300,vI 300,vI 0,vI 0,vI 0,vI 0]⟩⟩
theorem kKnown617:KKnown617.Ok Try.prog:=CF.of2 noNG mixed (l:=[]) .nil 3000 (by kernel_rfl)
def KKnown618:CF:=⟨91,[.agg ⟨[vJ 1,vI 2,vI 0,vI 0,vJ 1037,vJ 1037]⟩,.func (.func 98) ⟨[]⟩ ⟨[]⟩,.agg ⟨[vI 300,vI 300,vI 0,vI 0,vI 0,vI 0]⟩],.agg ⟨[vJ 301,vJ 297,vI 0,vI 0,vJ 1037,vJ 1037]⟩⟩
theorem kKnown618:KKnown618.Ok Try.prog:=CF.of2 noNG mixed (l:=[]) .nil 3000 (by kernel_rfl)
def KKnown619:CF:=⟨125,[.agg ⟨[vI 1166248,vI 1168648]⟩],.agg ⟨[vI 1079,vI 1082]⟩⟩
theorem kKnown619:KKnown619.Ok Try.prog:=CF.of2 noNG mixed (l:=[]) .nil 3000 (by kernel_rfl)
def KKnown620:CF:=⟨116,[.agg ⟨[vJ 301,vJ 297,vI 0,vI 0,vJ 1037,vJ 1037]⟩],.agg ⟨[vI 1079,vI 1082]⟩⟩
theorem kKnown620:KKnown620.Ok Try.prog:=CF.of2 noNG mixed (l:=[KKnown619]) (.cons kKnown619 .nil) 3000 (by kernel_rfl)
def KKnown621:CF:=⟨91,[.agg ⟨[vJ 301,vJ 297,vI 0,vI 0,vJ 1037,vJ 1037]⟩,.func (.func 111) ⟨[]⟩ ⟨[]⟩,.agg ⟨[vI 0,vI 0,vI 0,vI 0,vI 0,vI 0]⟩],.agg ⟨[vI 0,vI 0,vI 0,vI 0,vI 0,vI 0]⟩⟩
theorem kKnown621:KKnown621.Ok Try.prog:=CF.of2 noNG mixed (l:=[]) .nil 3000 (by kernel_rfl)
def KKnown622:CF:=⟨112,[.agg ⟨[vJ 301,vJ 297,vI 0,vI 0,vJ 1037,vJ 1037]⟩,.func (.func 111) ⟨[]⟩ ⟨[]⟩,.agg ⟨[vI 0,vI 0]⟩],.agg ⟨[vI 0,vI 0,vI 0,vI 0,vI 0,vI 0]⟩⟩
theorem kKnown622:KKnown622.Ok Try.prog:=CF.of2 noNG mixed (l:=[KKnown621]) (.cons kKnown621 .nil) 3000 (by kernel_rfl)
def KKnown623:CF:=⟨99,[.agg wKnown5,.agg ⟨[vI 0,vI 0,vI 0,vI 10,vI 10,vI 0,vI 0,vI 0,vI 0,vI 0,vI 0,vI 0,vI 0]⟩,.agg wKnown50],.agg ⟨[vI 0,vI 0,vI 0,vI 0,vI 0,vI 0]⟩⟩
theorem kKnown623:KKnown623.Ok Try.prog:=CF.of2 noNG mixed (l:=[KKnown617,KKnown618,KKnown620,KKnown622,KKnown27]) (.cons kKnown617 (.cons kKnown618 (.cons kKnown620 (.cons kKnown622 (.cons kKnown27 .nil))))) 3000 (by kernel_rfl)
def KKnown624:CF:=⟨69,[.agg wKnown5,.agg ⟨[vI 0,vI 0,vI 0,vI 10,vI 10,vI 0,vI 0,vI 0,vI 0,vI 0,vI 0,vI 0,vI 0]⟩,.agg wKnown50],.agg ⟨[vI 0,vI 0,vI 0,vI 0,vJ 97,vJ 97]⟩⟩
theorem kKnown624:KKnown624.Ok Try.prog:=CF.of2 noNG mixed (l:=[KKnown40,KKnown41,KKnown77,KKnown623]) (.cons kKnown40 (.cons kKnown41 (.cons kKnown77 (.cons kKnown623 .nil)))) 3000 (by kernel_rfl)
def KKnown625:CF:=⟨91,[.agg ⟨[vJ 1,vI 2,vI 0,vI 0,vJ 1037,vJ 1037]⟩,.func (.func 105) ⟨[]⟩ ⟨[]⟩,.agg ⟨[vI 0,vI 0,vI 0,vI 0,vJ 97,vJ 97]⟩],.agg ⟨[vJ 1,vI 2,vI 0,vI 0,vJ 1135,vJ 1135]⟩⟩
theorem kKnown625:KKnown625.Ok Try.prog:=CF.of2 noNG mixed (l:=[]) .nil 3000 (by kernel_rfl)
def KKnown626:CF:=⟨91,[.agg ⟨[vJ 60,vI 61,vI 0,vI 0,vI 12392,vI 12392]⟩,.func (.func 105) ⟨[]⟩ ⟨[]⟩,.agg ⟨[vJ 1,vI 2,vI 0,vI 0,vJ 1135,vJ 1135]⟩],.agg ⟨[vJ 62,vI 63,vI 0,vI 0,vI 11256,vI 11256]⟩⟩
theorem kKnown626:KKnown626.Ok Try.prog:=CF.of2 noNG mixed (l:=[]) .nil 3000 (by kernel_rfl)
def KKnown627:CF:=⟨119,[.agg wKnown50,.agg ⟨[vI 0,vI 0,vI 0,vI 0,vJ 97,vJ 97]⟩],.agg wKnown51⟩
theorem kKnown627:KKnown627.Ok Try.prog:=CF.of2 noNG mixed (l:=[KKnown625,KKnown626]) (.cons kKnown625 (.cons kKnown626 .nil)) 3000 (by kernel_rfl)
def KKnown628:CF:=⟨86,[.agg ⟨[vJ 62,vI 63,vI 0,vI 0,vI 11256,vI 11256]⟩,vI 2000000000],vT⟩
theorem kKnown628:KKnown628.Ok Try.prog:=CF.of2 noNG mixed (l:=[]) .nil 3000 (by kernel_rfl)
def KKnown629:CF:=⟨86,[.agg ⟨[vJ 1,vI 2,vI 0,vI 0,vJ 1135,vJ 1135]⟩,vI 1000000],vT⟩
theorem kKnown629:KKnown629.Ok Try.prog:=CF.of2 noNG mixed (l:=[]) .nil 3000 (by kernel_rfl)
def KKnown630:CF:=⟨68,[.agg wKnown51],vF⟩
theorem kKnown630:KKnown630.Ok Try.prog:=CF.of2 noNG mixed (l:=[KKnown628,KKnown629]) (.cons kKnown628 (.cons kKnown629 .nil)) 3000 (by kernel_rfl)
def KKnown631:CF:=⟨70,[lstV wKnown0 0 1 13,vI 32],.agg ⟨[vI 0,vI 0,vI 0,vI 10,vI 10,vI 0,vI 0,vI 0,vI 0,vI 0,vI 0,vI 0,vI 0]⟩⟩
theorem kKnown631:KKnown631.Ok Try.prog:=CF.of2 noNG mixed (l:=[]) .nil 3000 (by kernel_rfl)
def KKnown632:CF:=⟨55,[lstV wKnown2 0 2 7,.agg ⟨[vI 11256,vI 11256]⟩,.func (.func 57) ⟨[]⟩ ⟨[]⟩],.agg ⟨[vI 300,vI 300,vI 0,vI 0,vI 0,vI 0]⟩⟩
theorem kKnown632:KKnown632.Ok Try.prog:=CF.of2 noNG mixed (l:=[]) .nil 3000 (by kernel_rfl)
def KKnown633:CF:=⟨91,[.agg ⟨[vJ 1,vI 2,vI 0,vI 0,vJ 1135,vJ 1135]⟩,.func (.func 98) ⟨[]⟩ ⟨[]⟩,.agg ⟨[vI 300,vI 300,vI 0,vI 0,vI 0,vI 0]⟩],.agg ⟨[vJ 301,vJ 297,vI 0,vI 0,vJ 1135,vJ 1135]⟩⟩
theorem kKnown633:KKnown633.Ok Try.prog:=CF.of2 noNG mixed (l:=[]) .nil 3000 (by kernel_rfl)
def KKnown634:CF:=⟨125,[.agg ⟨[vI 1379300,vI 1381700]⟩],.agg ⟨[vI 1174,vI 1176]⟩⟩
theorem kKnown634:KKnown634.Ok Try.prog:=CF.of2 noNG mixed (l:=[]) .nil 3000 (by kernel_rfl)
def KKnown635:CF:=⟨116,[.agg ⟨[vJ 301,vJ 297,vI 0,vI 0,vJ 1135,vJ 1135]⟩],.agg ⟨[vI 1174,vI 1176]⟩⟩
theorem kKnown635:KKnown635.Ok Try.prog:=CF.of2 noNG mixed (l:=[KKnown634]) (.cons kKnown634 .nil) 3000 (by kernel_rfl)
def KKnown636:CF:=⟨91,[.agg ⟨[vJ 301,vJ 297,vI 0,vI 0,vJ 1135,vJ 1135]⟩,.func (.func 111) ⟨[]⟩ ⟨[]⟩,.agg ⟨[vI 0,vI 0,vI 0,vI 0,vI 0,vI 0]⟩],.agg ⟨[vI 0,vI 0,vI 0,vI 0,vI 0,vI 0]⟩⟩
theorem kKnown636:KKnown636.Ok Try.prog:=CF.of2 noNG mixed (l:=[]) .nil 3000 (by kernel_rfl)
def KKnown637:CF:=⟨112,[.agg ⟨[vJ 301,vJ 297,vI 0,vI 0,vJ 1135,vJ 1135]⟩,.func (.func 111) ⟨[]⟩ ⟨[]⟩,.agg ⟨[vI 0,vI 0]⟩],.agg ⟨[vI 0,vI 0,vI 0,vI 0,vI 0,vI 0]⟩⟩
theorem kKnown637:KKnown637.Ok Try.prog:=CF.of2 noNG mixed (l:=[KKnown636]) (.cons kKnown636 .nil) 3000 (by kernel_rfl)
def KKnown638:CF:=⟨99,[.agg wKnown5,.agg ⟨[vI 0,vI 0,vI 0,vI 10,vI 10,vI 0,vI 0,vI 0,vI 0,vI 0,vI 0,vI 0,vI 0]⟩,.agg wKnown51],.agg ⟨[vI 0,vI 0,vI 0,vI 0,vI 0,vI 0]⟩⟩
theorem kKnown638:KKnown638.Ok Try.prog:=CF.of2 noNG mixed (l:=[KKnown27,KKnown632,KKnown633,KKnown635,KKnown637]) (.cons kKnown27 (.cons kKnown632 (.cons kKnown633 (.cons kKnown635 (.cons kKnown637 .nil))))) 3000 (by kernel_rfl)
def KKnown639:CF:=⟨69,[.agg wKnown5,.agg ⟨[vI 0,vI 0,vI 0,vI 10,vI 10,vI 0,vI 0,vI 0,vI 0,vI 0,vI 0,vI 0,vI 0]⟩,.agg wKnown51],.agg ⟨[vI 0,vI 0,vI 0,vI 0,vJ 97,vJ 97]⟩⟩
theorem kKnown639:KKnown639.Ok Try.prog:=CF.of2 noNG mixed (l:=[KKnown40,KKnown41,KKnown77,KKnown638]) (.cons kKnown40 (.cons kKnown41 (.cons kKnown77 (.cons kKnown638 .nil)))) 3000 (by kernel_rfl)
def KKnown640:CF:=⟨91,[.agg ⟨[vJ 1,vI 2,vI 0,vI 0,vJ 1135,vJ 1135]⟩,.func (.func 105) ⟨[]⟩ ⟨[]⟩,.agg ⟨[vI 0,vI 0,vI 0,vI 0,vJ 97,vJ 97]⟩],.agg ⟨[vJ 1,vI 2,vI 0,vI 0,vJ 1233,vJ 1233]⟩⟩
theorem kKnown640:KKnown640.Ok Try.prog:=CF.of2 noNG mixed (l:=[]) .nil 3000 (by kernel_rfl)
def KKnown641:CF:=⟨91,[.agg ⟨[vJ 62,vI 63,vI 0,vI 0,vI 11256,vI 11256]⟩,.func (.func 105) ⟨[]⟩ ⟨[]⟩,.agg ⟨[vJ 1,vI 2,vI 0,vI 0,vJ 1233,vJ 1233]⟩],.agg ⟨[vJ 64,vI 65,vI 0,vI 0,vI 10022,vI 10022]⟩⟩
theorem kKnown641:KKnown641.Ok Try.prog:=CF.of2 noNG mixed (l:=[]) .nil 3000 (by kernel_rfl)
def KKnown642:CF:=⟨119,[.agg wKnown51,.agg ⟨[vI 0,vI 0,vI 0,vI 0,vJ 97,vJ 97]⟩],.agg wKnown52⟩
theorem kKnown642:KKnown642.Ok Try.prog:=CF.of2 noNG mixed (l:=[KKnown640,KKnown641]) (.cons kKnown640 (.cons kKnown641 .nil)) 3000 (by kernel_rfl)
def KKnown643:CF:=⟨86,[.agg ⟨[vJ 64,vI 65,vI 0,vI 0,vI 10022,vI 10022]⟩,vI 2000000000],vT⟩
theorem kKnown643:KKnown643.Ok Try.prog:=CF.of2 noNG mixed (l:=[]) .nil 3000 (by kernel_rfl)
def KKnown644:CF:=⟨86,[.agg ⟨[vJ 1,vI 2,vI 0,vI 0,vJ 1233,vJ 1233]⟩,vI 1000000],vT⟩
theorem kKnown644:KKnown644.Ok Try.prog:=CF.of2 noNG mixed (l:=[]) .nil 3000 (by kernel_rfl)
def KKnown645:CF:=⟨68,[.agg wKnown52],vF⟩
theorem kKnown645:KKnown645.Ok Try.prog:=CF.of2 noNG mixed (l:=[KKnown643,KKnown644]) (.cons kKnown643 (.cons kKnown644 .nil)) 3000 (by kernel_rfl)
def KKnown646:CF:=⟨70,[lstV wKnown0 0 1 13,vI 33],.agg ⟨[vI 0,vI 0,vI 0,vI 10,vI 10,vI 0,vI 0,vI 0,vI 0,vI 0,vI 0,vI 0,vI 0]⟩⟩
theorem kKnown646:KKnown646.Ok Try.prog:=CF.of2 noNG mixed (l:=[]) .nil 3000 (by kernel_rfl)
def KKnown647:CF:=⟨55,[lstV wKnown2 0 2 7,.agg ⟨[vI 10022,vI 10022]⟩,.func (.func 57) ⟨[]⟩ ⟨[]⟩],.agg ⟨[vI 300,vI 300,vI 0,vI 0,vI 0,vI 0]⟩⟩
theorem kKnown647:KKnown647.Ok Try.prog:=CF.of2 noNG mixed (l:=[]) .nil 3000 (by kernel_rfl)
def KKnown648:CF:=⟨91,[.agg ⟨[vJ 1,vI 2,vI 0,vI 0,vJ 1233,vJ 1233]⟩,.func (.func 98) ⟨[]⟩ ⟨[]⟩,.agg ⟨[vI 300,vI 300,vI 0,vI 0,vI 0,vI 0]⟩],.agg ⟨[vJ 301,vJ 297,vI 0,vI 0,vJ 1233,vJ 1233]⟩⟩
theorem kKnown648:KKnown648.Ok Try.prog:=CF.of2 noNG mixed (l:=[]) .nil 3000 (by kernel_rfl)
def KKnown649:CF:=⟨125,[.agg ⟨[vI 1611560,vI 1613960]⟩],.agg ⟨[vI 1269,vI 1271]⟩⟩
theorem kKnown649:KKnown649.Ok Try.prog:=CF.of2 noNG mixed (l:=[]) .nil 3000 (by kernel_rfl)
def KKnown650:CF:=⟨116,[.agg ⟨[vJ 301,vJ 297,vI 0,vI 0,vJ 1233,vJ 1233]⟩],.agg ⟨[vI 1269,vI 1271]⟩⟩
theorem kKnown650:KKnown650.Ok Try.prog:=CF.of2 noNG mixed (l:=[KKnown649]) (.cons kKnown649 .nil) 3000 (by kernel_rfl)
def KKnown651:CF:=⟨91,[.agg ⟨[vJ 301,vJ 297,vI 0,vI 0,vJ 1233,vJ 1233]⟩,.func (.func 111) ⟨[]⟩ ⟨[]⟩,.agg ⟨[vI 0,vI 0,vI 0,vI 0,vI 0,vI 0]⟩],.agg ⟨[vI 0,vI 0,vI 0,vI 0,vI 0,vI 0]⟩⟩
theorem kKnown651:KKnown651.Ok Try.prog:=CF.of2 noNG mixed (l:=[]) .nil 3000 (by kernel_rfl)
def KKnown652:CF:=⟨112,[.agg ⟨[vJ 301,vJ 297,vI 0,vI 0,vJ 1233,vJ 1233]⟩,.func (.func 111) ⟨[]⟩ ⟨[]⟩,.agg ⟨[vI 0,vI 0]⟩],.agg ⟨[vI 0,vI 0,vI 0,vI 0,vI 0,vI 0]⟩⟩
theorem kKnown652:KKnown652.Ok Try.prog:=CF.of2 noNG mixed (l:=[KKnown651]) (.cons kKnown651 .nil) 3000 (by kernel_rfl)
def KKnown653:CF:=⟨99,[.agg wKnown5,.agg ⟨[vI 0,vI 0,vI 0,vI 10,vI 10,vI 0,vI 0,vI 0,vI 0,vI 0,vI 0,vI 0,vI 0]⟩,.agg wKnown52],.agg ⟨[vI 0,vI 0,vI 0,vI 0,vI 0,vI 0]⟩⟩
theorem kKnown653:KKnown653.Ok Try.prog:=CF.of2 noNG mixed (l:=[KKnown647,KKnown648,KKnown650,KKnown652,KKnown27]) (.cons kKnown647 (.cons kKnown648 (.cons kKnown650 (.cons kKnown652 (.cons kKnown27 .nil))))) 3000 (by kernel_rfl)
def KKnown654:CF:=⟨69,[.agg wKnown5,.agg ⟨[vI 0,vI 0,vI 0,vI 10,vI 10,vI 0,vI 0,vI 0,vI 0,vI 0,vI 0,vI 0,vI 0]⟩,.agg wKnown52],.agg ⟨[vI 0,vI 0,vI 0,vI 0,vJ 97,vJ 97]⟩⟩
theorem kKnown654:KKnown654.Ok Try.prog:=CF.of2 noNG mixed (l:=[KKnown40,KKnown41,KKnown77,KKnown653]) (.cons kKnown40 (.cons kKnown41 (.cons kKnown77 (.cons kKnown653 .nil)))) 3000 (by kernel_rfl)
def KKnown655:CF:=⟨91,[.agg ⟨[vJ 1,vI 2,vI 0,vI 0,vJ 1233,vJ 1233]⟩,.func (.func 105) ⟨[]⟩ ⟨[]⟩,.agg ⟨[vI 0,vI 0,vI 0,vI 0,vJ 97,vJ 97]⟩],.agg ⟨[vJ 1,vI 2,vI 0,vI 0,vJ 1331,vJ 1331]⟩⟩
theorem kKnown655:KKnown655.Ok Try.prog:=CF.of2 noNG mixed (l:=[]) .nil 3000 (by kernel_rfl)
def KKnown656:CF:=⟨91,[.agg ⟨[vJ 64,vI 65,vI 0,vI 0,vI 10022,vI 10022]⟩,.func (.func 105) ⟨[]⟩ ⟨[]⟩,.agg ⟨[vJ 1,vI 2,vI 0,vI 0,vJ 1331,vJ 1331]⟩],.agg ⟨[vJ 66,vI 67,vI 0,vI 0,vI 8690,vI 8690]⟩⟩
theorem kKnown656:KKnown656.Ok Try.prog:=CF.of2 noNG mixed (l:=[]) .nil 3000 (by kernel_rfl)
def KKnown657:CF:=⟨119,[.agg wKnown52,.agg ⟨[vI 0,vI 0,vI 0,vI 0,vJ 97,vJ 97]⟩],.agg wKnown53⟩
theorem kKnown657:KKnown657.Ok Try.prog:=CF.of2 noNG mixed (l:=[KKnown656,KKnown655]) (.cons kKnown656 (.cons kKnown655 .nil)) 3000 (by kernel_rfl)
def KKnown658:CF:=⟨86,[.agg ⟨[vJ 66,vI 67,vI 0,vI 0,vI 8690,vI 8690]⟩,vI 2000000000],vT⟩
theorem kKnown658:KKnown658.Ok Try.prog:=CF.of2 noNG mixed (l:=[]) .nil 3000 (by kernel_rfl)
def KKnown659:CF:=⟨86,[.agg ⟨[vJ 1,vI 2,vI 0,vI 0,vJ 1331,vJ 1331]⟩,vI 1000000],vT⟩
theorem kKnown659:KKnown659.Ok Try.prog:=CF.of2 noNG mixed (l:=[]) .nil 3000 (by kernel_rfl)
def KKnown660:CF:=⟨68,[.agg wKnown53],vF⟩
theorem kKnown660:KKnown660.Ok Try.prog:=CF.of2 noNG mixed (l:=[KKnown658,KKnown659]) (.cons kKnown658 (.cons kKnown659 .nil)) 3000 (by kernel_rfl)
def KKnown661:CF:=⟨70,[lstV wKnown0 0 1 13,vI 34],.agg ⟨[vI 0,vI 0,vI 0,vI 10,vI 10,vI 0,vI 0,vI 0,vI 0,vI 0,vI 0,vI 0,vI 0]⟩⟩
theorem kKnown661:KKnown661.Ok Try.prog:=CF.of2 noNG mixed (l:=[]) .nil 3000 (by kernel_rfl)
def KKnown662:CF:=⟨55,[lstV wKnown2 0 2 7,.agg ⟨[vI 8690,vI 8690]⟩,.func (.func 57) ⟨[]⟩ ⟨[]⟩],.agg ⟨[vI 300,vI 300,vI 0,vI 0,vI 0,vI 0]⟩⟩
theorem kKnown662:KKnown662.Ok Try.prog:=CF.of2 noNG mixed (l:=[]) .nil 3000 (by kernel_rfl)
def KKnown663:CF:=⟨91,[.agg ⟨[vJ 1,vI 2,vI 0,vI 0,vJ 1331,vJ 1331]⟩,.func (.func 98) ⟨[]⟩ ⟨[]⟩,.agg ⟨[vI 300,vI 300,vI 0,vI 0,vI 0,vI 0]⟩],.agg ⟨[vJ 301,vJ 297,vI 0,vI 0,vJ 1331,vJ 1331]⟩⟩
theorem kKnown663:KKnown663.Ok Try.prog:=CF.of2 noNG mixed (l:=[]) .nil 3000 (by kernel_rfl)
def KKnown664:CF:=⟨125,[.agg ⟨[vI 1863028,vI 1865428]⟩],.agg ⟨[vI 1364,vI 1366]⟩⟩
theorem kKnown664:KKnown664.Ok Try.prog:=CF.of2 noNG mixed (l:=[]) .nil 3000 (by kernel_rfl)
def KKnown665:CF:=⟨116,[.agg ⟨[vJ 301,vJ 297,vI 0,vI 0,vJ 1331,vJ 1331]⟩],.agg ⟨[vI 1364,vI 1366]⟩⟩
theorem kKnown665:KKnown665.Ok Try.prog:=CF.of2 noNG mixed (l:=[KKnown664]) (.cons kKnown664 .nil) 3000 (by kernel_rfl)
def KKnown666:CF:=⟨91,[.agg ⟨[vJ 301,vJ 297,vI 0,vI 0,vJ 1331,vJ 1331]⟩,.func (.func 111) ⟨[]⟩ ⟨[]⟩,.agg ⟨[vI 0,vI 0,vI 0,vI 0,vI 0,vI 0]⟩],.agg ⟨[vI 0,vI 0,vI 0,vI 0,vI 0,vI 0]⟩⟩
theorem kKnown666:KKnown666.Ok Try.prog:=CF.of2 noNG mixed (l:=[]) .nil 3000 (by kernel_rfl)
def KKnown667:CF:=⟨112,[.agg ⟨[vJ 301,vJ 297,vI 0,vI 0,vJ 1331,vJ 1331]⟩,.func (.func 111) ⟨[]⟩ ⟨[]⟩,.agg ⟨[vI 0,vI 0]⟩],.agg ⟨[vI 0,vI 0,vI 0,vI 0,vI 0,vI 0]⟩⟩
theorem kKnown667:KKnown667.Ok Try.prog:=CF.of2 noNG mixed (l:=[KKnown666]) (.cons kKnown666 .nil) 3000 (by kernel_rfl)
def KKnown668:CF:=⟨99,[.agg wKnown5,.agg ⟨[vI 0,vI 0,vI 0,vI 10,vI 10,vI 0,vI 0,vI 0,vI 0,vI 0,vI 0,vI 0,vI 0]⟩,.agg wKnown53],.agg ⟨[vI 0,vI 0,vI 0,vI 0,vI 0,vI 0]⟩⟩
theorem kKnown668:KKnown668.Ok Try.prog:=CF.of2 noNG mixed (l:=[KKnown662,KKnown663,KKnown665,KKnown27,KKnown667]) (.cons kKnown662 (.cons kKnown663 (.cons kKnown665 (.cons kKnown27 (.cons kKnown667 .nil))))) 3000 (by kernel_rfl)
def KKnown669:CF:=⟨69,[.agg wKnown5,.agg ⟨[vI 0,vI 0,vI 0,vI 10,vI 10,vI 0,vI 0,vI 0,vI 0,vI 0,vI 0,vI 0,vI 0]⟩,.agg wKnown53],.agg ⟨[vI 0,vI 0,vI 0,vI 0,vJ 97,vJ 97]⟩⟩
theorem kKnown669:KKnown669.Ok Try.prog:=CF.of2 noNG mixed (l:=[KKnown40,KKnown41,KKnown668,KKnown77]) (.cons kKnown40 (.cons kKnown41 (.cons kKnown668 (.cons kKnown77 .nil)))) 3000 (by kernel_rfl)
def KKnown670:CF:=⟨91,[.agg ⟨[vJ 1,vI 2,vI 0,vI 0,vJ 1331,vJ 1331]⟩,.func (.func 105) ⟨[]⟩ ⟨[]⟩,.agg ⟨[vI 0,vI 0,vI 0,vI 0,vJ 97,vJ 97]⟩],.agg ⟨[vJ 1,vI 2,vI 0,vI 0,vJ 1429,vJ 1429]⟩⟩
theorem kKnown670:KKnown670.Ok Try.prog:=CF.of2 noNG mixed (l:=[]) .nil 3000 (by kernel_rfl)
def KKnown671:CF:=⟨91,[.agg ⟨[vJ 66,vI 67,vI 0,vI 0,vI 8690,vI 8690]⟩,.func (.func 105) ⟨[]⟩ ⟨[]⟩,.agg ⟨[vJ 1,vI 2,vI 0,vI 0,vJ 1429,vJ 1429]⟩],.agg ⟨[vJ 68,vI 69,vI 0,vI 0,vI 7260,vI 7260]⟩⟩
theorem kKnown671:KKnown671.Ok Try.prog:=CF.of2 noNG mixed (l:=[]) .nil 3000 (by kernel_rfl)
def KKnown672:CF:=⟨119,[.agg wKnown53,.agg ⟨[vI 0,vI 0,vI 0,vI 0,vJ 97,vJ 97]⟩],.agg wKnown54⟩
theorem kKnown672:KKnown672.Ok Try.prog:=CF.of2 noNG mixed (l:=[KKnown670,KKnown671]) (.cons kKnown670 (.cons kKnown671 .nil)) 3000 (by kernel_rfl)
def KKnown673:CF:=⟨86,[.agg ⟨[vJ 68,vI 69,vI 0,vI 0,vI 7260,vI 7260]⟩,vI 2000000000],vT⟩
theorem kKnown673:KKnown673.Ok Try.prog:=CF.of2 noNG mixed (l:=[]) .nil 3000 (by kernel_rfl)
def KKnown674:CF:=⟨86,[.agg ⟨[vJ 1,vI 2,vI 0,vI 0,vJ 1429,vJ 1429]⟩,vI 1000000],vT⟩
theorem kKnown674:KKnown674.Ok Try.prog:=CF.of2 noNG mixed (l:=[]) .nil 3000 (by kernel_rfl)
def KKnown675:CF:=⟨68,[.agg wKnown54],vF⟩
theorem kKnown675:KKnown675.Ok Try.prog:=CF.of2 noNG mixed (l:=[KKnown673,KKnown674]) (.cons kKnown673 (.cons kKnown674 .nil)) 3000 (by kernel_rfl)
def KKnown676:CF:=⟨70,[lstV wKnown0 0 1 13,vI 35],.agg ⟨[vI 0,vI 0,vI 0,vI 10,vI 10,vI 0,vI 0,vI 0,vI 0,vI 0,vI 0,vI 0,vI 0]⟩⟩
theorem kKnown676:KKnown676.Ok Try.prog:=CF.of2 noNG mixed (l:=[]) .nil 3000 (by kernel_rfl)
def KKnown677:CF:=⟨55,[lstV wKnown2 0 2 7,.agg ⟨[vI 7260,vI 7260]⟩,.func (.func 57) ⟨[]⟩ ⟨[]⟩],.agg ⟨[vI 300,vI 300,vI 0,vI 0,vI 0,vI 0]⟩⟩
theorem kKnown677:KKnown677.Ok Try.prog:=CF.of2 noNG mixed (l:=[]) .nil 3000 (by kernel_rfl)
def KKnown678:CF:=⟨91,[.agg ⟨[vJ 1,vI 2,vI 0,vI 0,vJ 1429,vJ 1429]⟩,.func (.func 98) ⟨[]⟩ ⟨[]⟩,.agg ⟨[vI 300,vI 300,vI 0,vI 0,vI 0,vI 0]⟩],.agg ⟨[vJ 301,vJ 297,vI 0,vI 0,vJ 1429,vJ 1429]⟩⟩
theorem kKnown678:KKnown678.Ok Try.prog:=CF.of2 noNG mixed (l:=[]) .nil 3000 (by kernel_rfl)
def KKnown679:CF:=⟨125,[.agg ⟨[vI 2133704,vI 2136104]⟩],.agg ⟨[vI 1460,vI 1462]⟩⟩
theorem kKnown679:KKnown679.Ok Try.prog:=CF.of2 noNG mixed (l:=[]) .nil 3000 (by kernel_rfl)
def KKnown680:CF:=⟨116,[.agg ⟨[vJ 301,vJ 297,vI 0,vI 0,vJ 1429,vJ 1429]⟩],.agg ⟨[vI 1460,vI 1462]⟩⟩
theorem kKnown680:KKnown680.Ok Try.prog:=CF.of2 noNG mixed (l:=[KKnown679]) (.cons kKnown679 .nil) 3000 (by kernel_rfl)
def KKnown681:CF:=⟨91,[.agg ⟨[vJ 301,vJ 297,vI 0,vI 0,vJ 1429,vJ 1429]⟩,.func (.func 111) ⟨[]⟩ ⟨[]⟩,.agg ⟨[vI 0,vI 0,vI 0,vI 0,vI 0,vI 0]⟩],.agg ⟨[vI 0,vI 0,vI 0,vI 0,vI 0,vI 0]⟩⟩
theorem kKnown681:KKnown681.Ok Try.prog:=CF.of2 noNG mixed (l:=[]) .nil 3000 (by kernel_rfl)
def KKnown682:CF:=⟨112,[.agg ⟨[vJ 301,vJ 297,vI 0,vI 0,vJ 1429,vJ 1429]⟩,.func (.func 111) ⟨[]⟩ ⟨[]⟩,.agg ⟨[vI 0,vI 0]⟩],.agg ⟨[vI 0,vI 0,vI 0,vI 0,vI 0,vI 0]⟩⟩
theorem kKnown682:KKnown682.Ok Try.prog:=CF.of2 noNG mixed (l:=[KKnown681]) (.cons kKnown681 .nil) 3000 (by kernel_rfl)
def KKnown683:CF:=⟨99,[.agg wKnown5,.agg ⟨[vI 0,vI 0,vI 0,vI 10,vI 10,vI 0,vI 0,vI 0,vI 0,vI 0,vI 0,vI 0,vI 0]⟩,.agg wKnown54],.agg ⟨[vI 0,vI 0,vI 0,vI 0,vI 0,vI 0]⟩⟩
theorem kKnown683:KKnown683.Ok Try.prog:=CF.of2 noNG mixed (l:=[KKnown677,KKnown678,KKnown680,KKnown682,KKnown27]) (.cons kKnown677 (.cons kKnown678 (.cons kKnown680 (.cons kKnown682 (.cons kKnown27 .nil))))) 3000 (by kernel_rfl)
def KKnown684:CF:=⟨69,[.agg wKnown5,.agg ⟨[vI 0,vI 0,vI 0,vI 10,vI 10,vI 0,vI 0,vI 0,vI 0,vI 0,vI 0,vI 0,vI 0]⟩,.agg wKnown54],.agg ⟨[vI 0,vI 0,vI 0,vI 0,vJ 97,vJ 97]⟩⟩
theorem kKnown684:KKnown684.Ok Try.prog:=CF.of2 noNG mixed (l:=[KKnown40,KKnown41,KKnown683,KKnown77]) (.cons kKnown40 (.cons kKnown41 (.cons kKnown683 (.cons kKnown77 .nil)))) 3000 (by kernel_rfl)
def KKnown685:CF:=⟨91,[.agg ⟨[vJ 1,vI 2,vI 0,vI 0,vJ 1429,vJ 1429]⟩,.func (.func 105) ⟨[]⟩ ⟨[]⟩,.agg ⟨[vI 0,vI 0,vI 0,vI 0,vJ 97,vJ 97]⟩],.agg ⟨[vJ 1,vI 2,vI 0,vI 0,vJ 1527,vJ 1527]⟩⟩
theorem kKnown685:KKnown685.Ok Try.prog:=CF.of2 noNG mixed (l:=[]) .nil 3000 (by kernel_rfl)
def KKnown686:CF:=⟨91,[.agg ⟨[vJ 68,vI 69,vI 0,vI 0,vI 7260,vI 7260]⟩,.func (.func 105) ⟨[]⟩ ⟨[]⟩,.agg ⟨[vJ 1,vI 2,vI 0,vI 0,vJ 1527,vJ 1527]⟩],.agg ⟨[vJ 70,vI 71,vI 0,vI 0,vI 5732,vI 5732]⟩⟩
theorem kKnown686:KKnown686.Ok Try.prog:=CF.of2 noNG mixed (l:=[]) .nil 3000 (by kernel_rfl)
def KKnown687:CF:=⟨119,[.agg wKnown54,.agg ⟨[vI 0,vI 0,vI 0,vI 0,vJ 97,vJ 97]⟩],.agg wKnown55⟩
theorem kKnown687:KKnown687.Ok Try.prog:=CF.of2 noNG mixed (l:=[KKnown685,KKnown686]) (.cons kKnown685 (.cons kKnown686 .nil)) 3000 (by kernel_rfl)
def KKnown688:CF:=⟨86,[.agg ⟨[vJ 70,vI 71,vI 0,vI 0,vI 5732,vI 5732]⟩,vI 2000000000],vT⟩
theorem kKnown688:KKnown688.Ok Try.prog:=CF.of2 noNG mixed (l:=[]) .nil 3000 (by kernel_rfl)
def KKnown689:CF:=⟨86,[.agg ⟨[vJ 1,vI 2,vI 0,vI 0,vJ 1527,vJ 1527]⟩,vI 1000000],vT⟩
theorem kKnown689:KKnown689.Ok Try.prog:=CF.of2 noNG mixed (l:=[]) .nil 3000 (by kernel_rfl)
def KKnown690:CF:=⟨68,[.agg wKnown55],vF⟩
theorem kKnown690:KKnown690.Ok Try.prog:=CF.of2 noNG mixed (l:=[KKnown688,KKnown689]) (.cons kKnown688 (.cons kKnown689 .nil)) 3000 (by kernel_rfl)
def KKnown691:CF:=⟨70,[lstV wKnown0 0 1 13,vI 36],.agg ⟨[vI 0,vI 0,vI 0,vI 10,vI 10,vI 0,vI 0,vI 0,vI 0,vI 0,vI 0,vI 0,vI 0]⟩⟩
theorem kKnown691:KKnown691.Ok Try.prog:=CF.of2 noNG mixed (l:=[]) .nil 3000 (by kernel_rfl)
def KKnown692:CF:=⟨55,[lstV wKnown2 0 2 7,.agg ⟨[vI 5732,vI 5732]⟩,.func (.func 57) ⟨[]⟩ ⟨[]⟩],.agg ⟨[vI 300,vI 300,vI 0,vI 0,vI 0,vI 0]⟩⟩
theorem kKnown692:KKnown692.Ok Try.prog:=CF.of2 noNG mixed (l:=[]) .nil 3000 (by kernel_rfl)
def KKnown693:CF:=⟨91,[.agg ⟨[vJ 1,vI 2,vI 0,vI 0,vJ 1527,vJ 1527]⟩,.func (.func 98) ⟨[]⟩ ⟨[]⟩,.agg ⟨[vI 300,vI 300,vI 0,vI 0,vI 0,vI 0]⟩],.agg ⟨[vJ 301,vJ 297,vI 0,vI 0,vJ 1527,vJ 1527]⟩⟩
theorem kKnown693:KKnown693.Ok Try.prog:=CF.of2 noNG mixed (l:=[]) .nil 3000 (by kernel_rfl)
def KKnown694:CF:=⟨125,[.agg ⟨[vI 2423588,vI 2425988]⟩],.agg ⟨[vI 1556,vI 1558]⟩⟩
theorem kKnown694:KKnown694.Ok Try.prog:=CF.of2 noNG mixed (l:=[]) .nil 3000 (by kernel_rfl)
def KKnown695:CF:=⟨116,[.agg ⟨[vJ 301,vJ 297,vI 0,vI 0,vJ 1527,vJ 1527]⟩],.agg ⟨[vI 1556,vI 1558]⟩⟩
theorem kKnown695:KKnown695.Ok Try.prog:=CF.of2 noNG mixed (l:=[KKnown694]) (.cons kKnown694 .nil) 3000 (by kernel_rfl)
def KKnown696:CF:=⟨91,[.agg ⟨[vJ 301,vJ 297,vI 0,vI 0,vJ 1527,vJ 1527]⟩,.func (.func 111) ⟨[]⟩ ⟨[]⟩,.agg ⟨[vI 0,vI 0,vI 0,vI 0,vI 0,vI 0]⟩],.agg ⟨[vI 0,vI 0,vI 0,vI 0,vI 0,vI 0]⟩⟩
theorem kKnown696:KKnown696.Ok Try.prog:=CF.of2 noNG mixed (l:=[]) .nil 3000 (by kernel_rfl)
def KKnown697:CF:=⟨112,[.agg ⟨[vJ 301,vJ 297,vI 0,vI 0,vJ 1527,vJ 1527]⟩,.func (.func 111) ⟨[]⟩ ⟨[]⟩,.agg ⟨[vI 0,vI 0]⟩],.agg ⟨[vI 0,vI 0,vI 0,vI 0,vI 0,vI 0]⟩⟩
theorem kKnown697:KKnown697.Ok Try.prog:=CF.of2 noNG mixed (l:=[KKnown696]) (.cons kKnown696 .nil) 3000 (by kernel_rfl)
def KKnown698:CF:=⟨99,[.agg wKnown5,.agg ⟨[vI 0,vI 0,vI 0,vI 10,vI 10,vI 0,vI 0,vI 0,vI 0,vI 0,vI 0,vI 0,vI 0]⟩,.agg wKnown55],.agg ⟨[vI 0,vI 0,vI 0,vI 0,vI 0,vI 0]⟩⟩
theorem kKnown698:KKnown698.Ok Try.prog:=CF.of2 noNG mixed (l:=[KKnown692,KKnown693,KKnown695,KKnown697,KKnown27]) (.cons kKnown692 (.cons kKnown693 (.cons kKnown695 (.cons kKnown697 (.cons kKnown27 .nil))))) 3000 (by kernel_rfl)
def KKnown699:CF:=⟨69,[.agg wKnown5,.agg ⟨[vI 0,vI 0,vI 0,vI 10,vI 10,vI 0,vI 0,vI 0,vI 0,vI 0,vI 0,vI 0,vI 0]⟩,.agg wKnown55],.agg ⟨[vI 0,vI 0,vI 0,vI 0,vJ 97,vJ 97]⟩⟩
theorem kKnown699:KKnown699.Ok Try.prog:=CF.of2 noNG mixed (l:=[KKnown40,KKnown41,KKnown698,KKnown77]) (.cons kKnown40 (.cons kKnown41 (.cons kKnown698 (.cons kKnown77 .nil)))) 3000 (by kernel_rfl)
def KKnown700:CF:=⟨91,[.agg ⟨[vJ 1,vI 2,vI 0,vI 0,vJ 1527,vJ 1527]⟩,.func (.func 105) ⟨[]⟩ ⟨[]⟩,.agg ⟨[vI 0,vI 0,vI 0,vI 0,vJ 97,vJ 97]⟩],.agg ⟨[vJ 1,vI 2,vI 0,vI 0,vJ 1625,vJ 1625]⟩⟩
theorem kKnown700:KKnown700.Ok Try.prog:=CF.of2 noNG mixed (l:=[]) .nil 3000 (by kernel_rfl)
def KKnown701:CF:=⟨91,[.agg ⟨[vJ 70,vI 71,vI 0,vI 0,vI 5732,vI 5732]⟩,.func (.func 105) ⟨[]⟩ ⟨[]⟩,.agg ⟨[vJ 1,vI 2,vI 0,vI 0,vJ 1625,vJ 1625]⟩],.agg ⟨[vJ 72,vI 73,vI 0,vI 0,vI 4106,vI 4106]⟩⟩
theorem kKnown701:KKnown701.Ok Try.prog:=CF.of2 noNG mixed (l:=[]) .nil 3000 (by kernel_rfl)
def KKnown702:CF:=⟨119,[.agg wKnown55,.agg ⟨[vI 0,vI 0,vI 0,vI 0,vJ 97,vJ 97]⟩],.agg wKnown56⟩
theorem kKnown702:KKnown702.Ok Try.prog:=CF.of2 noNG mixed (l:=[KKnown700,KKnown701]) (.cons kKnown700 (.cons kKnown701 .nil)) 3000 (by kernel_rfl)
def KKnown703:CF:=⟨86,[.agg ⟨[vJ 72,vI 73,vI 0,vI 0,vI 4106,vI 4106]⟩,vI 2000000000],vT⟩
theorem kKnown703:KKnown703.Ok Try.prog:=CF.of2 noNG mixed (l:=[]) .nil 3000 (by kernel_rfl)
def KKnown704:CF:=⟨86,[.agg ⟨[vJ 1,vI 2,vI 0,vI 0,vJ 1625,vJ 1625]⟩,vI 1000000],vT⟩
theorem kKnown704:KKnown704.Ok Try.prog:=CF.of2 noNG mixed (l:=[]) .nil 3000 (by kernel_rfl)
def KKnown705:CF:=⟨68,[.agg wKnown56],vF⟩
theorem kKnown705:KKnown705.Ok Try.prog:=CF.of2 noNG mixed (l:=[KKnown704,KKnown703]) (.cons kKnown704 (.cons kKnown703 .nil)) 3000 (by kernel_rfl)
def KKnown706:CF:=⟨70,[lstV wKnown0 0 1 13,vI 37],.agg ⟨[vI 0,vI 0,vI 0,vI 10,vI 10,vI 0,vI 0,vI 0,vI 0,vI 0,vI 0,vI 0,vI 0]⟩⟩
theorem kKnown706:KKnown706.Ok Try.prog:=CF.of2 noNG mixed (l:=[]) .nil 3000 (by kernel_rfl)
def KKnown707:CF:=⟨55,[lstV wKnown2 0 2 7,.agg ⟨[vI 4106,vI 4106]⟩,.func (.func 57) ⟨[]⟩ ⟨[]⟩],.agg ⟨[vI 300,vI 300,vI 0,vI 0,vI 0,vI 0]⟩⟩
theorem kKnown707:KKnown707.Ok Try.prog:=CF.of2 noNG mixed (l:=[]) .nil 3000 (by kernel_rfl)
def KKnown708:CF:=⟨91,[.agg ⟨[vJ 1,vI 2,vI 0,vI 0,vJ 1625,vJ 1625]⟩,.func (.func 98) ⟨[]⟩ ⟨[]⟩,.agg ⟨[vI 300,vI 300,vI 0,vI 0,vI 0,vI 0]⟩],.agg ⟨[vJ 301,vJ 297,vI 0,vI 0,vJ 1625,vJ 1625]⟩⟩
theorem kKnown708:KKnown708.Ok Try.prog:=CF.of2 noNG mixed (l:=[]) .nil 3000 (by kernel_rfl)
def KKnown709:CF:=⟨125,[.agg ⟨[vI 2732680,vI 2735080]⟩],.agg ⟨[vI 1653,vI 1654]⟩⟩
theorem kKnown709:KKnown709.Ok Try.prog:=CF.of2 noNG mixed (l:=[]) .nil 3000 (by kernel_rfl)
def KKnown710:CF:=⟨116,[.agg ⟨[vJ 301,vJ 297,vI 0,vI 0,vJ 1625,vJ 1625]⟩],.agg ⟨[vI 1653,vI 1654]⟩⟩
theorem kKnown710:KKnown710.Ok Try.prog:=CF.of2 noNG mixed (l:=[KKnown709]) (.cons kKnown709 .nil) 3000 (by kernel_rfl)
def KKnown711:CF:=⟨91,[.agg ⟨[vJ 301,vJ 297,vI 0,vI 0,vJ 1625,vJ 1625]⟩,.func (.func 111) ⟨[]⟩ ⟨[]⟩,.agg ⟨[vI 0,vI 0,vI 0,vI 0,vI 0,vI 0]⟩],.agg ⟨[vI 0,vI 0,vI 0,vI 0,vI 0,vI 0]⟩⟩
theorem kKnown711:KKnown711.Ok Try.prog:=CF.of2 noNG mixed (l:=[]) .nil 3000 (by kernel_rfl)
def KKnown712:CF:=⟨112,[.agg ⟨[vJ 301,vJ 297,vI 0,vI 0,vJ 1625,vJ 1625]⟩,.func (.func 111) ⟨[]⟩ ⟨[]⟩,.agg ⟨[vI 0,vI 0]⟩],.agg ⟨[vI 0,vI 0,vI 0,vI 0,vI 0,vI 0]⟩⟩
theorem kKnown712:KKnown712.Ok Try.prog:=CF.of2 noNG mixed (l:=[KKnown711]) (.cons kKnown711 .nil) 3000 (by kernel_rfl)
def KKnown713:CF:=⟨99,[.agg wKnown5,.agg ⟨[vI 0,vI 0,vI 0,vI 10,vI 10,vI 0,vI 0,vI 0,vI 0,vI 0,vI 0,vI 0,vI 0]⟩,.agg wKnown56],.agg ⟨[vI 0,vI 0,vI 0,vI 0,vI 0,vI 0]⟩⟩
theorem kKnown713:KKnown713.Ok Try.prog:=CF.of2 noNG mixed (l:=[KKnown707,KKnown708,KKnown710,KKnown712,KKnown27]) (.cons kKnown707 (.cons kKnown708 (.cons kKnown710 (.cons kKnown712 (.cons kKnown27 .nil))))) 3000 (by kernel_rfl)
def KKnown714:CF:=⟨69,[.agg wKnown5,.agg ⟨[vI 0,vI 0,vI 0,vI 10,vI 10,vI 0,vI 0,vI 0,vI 0,vI 0,vI 0,vI 0,vI 0]⟩,.agg wKnown56],.agg ⟨[vI 0,vI 0,vI 0,vI 0,vJ 97,vJ 97]⟩⟩
theorem kKnown714:KKnown714.Ok Try.prog:=CF.of2 noNG mixed (l:=[KKnown40,KKnown713,KKnown77,KKnown41]) (.cons kKnown40 (.cons kKnown713 (.cons kKnown77 (.cons kKnown41 .nil)))) 3000 (by kernel_rfl)
def KKnown715:CF:=⟨91,[.agg ⟨[vJ 1,vI 2,vI 0,vI 0,vJ 1625,vJ 1625]⟩,.func (.func 105) ⟨[]⟩ ⟨[]⟩,.agg ⟨[vI 0,vI 0,vI 0,vI 0,vJ 97,vJ 97]⟩],.agg ⟨[vJ 1,vI 2,vI 0,vI 0,vJ 1723,vJ 1723]⟩⟩
theorem kKnown715:KKnown715.Ok Try.prog:=CF.of2 noNG mixed (l:=[]) .nil 3000 (by kernel_rfl)
def KKnown716:CF:=⟨91,[.agg ⟨[vJ 72,vI 73,vI 0,vI 0,vI 4106,vI 4106]⟩,.func (.func 105) ⟨[]⟩ ⟨[]⟩,.agg ⟨[vJ 1,vI 2,vI 0,vI 0,vJ 1723,vJ 1723]⟩],.agg ⟨[vJ 74,vI 75,vI 0,vI 0,vI 2382,vI 2382]⟩⟩
theorem kKnown716:KKnown716.Ok Try.prog:=CF.of2 noNG mixed (l:=[]) .nil 3000 (by kernel_rfl)
def KKnown717:CF:=⟨119,[.agg wKnown56,.agg ⟨[vI 0,vI 0,vI 0,vI 0,vJ 97,vJ 97]⟩],.agg wKnown57⟩
theorem kKnown717:KKnown717.Ok Try.prog:=CF.of2 noNG mixed (l:=[KKnown715,KKnown716]) (.cons kKnown715 (.cons kKnown716 .nil)) 3000 (by kernel_rfl)
def KKnown718:CF:=⟨86,[.agg ⟨[vJ 74,vI 75,vI 0,vI 0,vI 2382,vI 2382]⟩,vI 2000000000],vT⟩
theorem kKnown718:KKnown718.Ok Try.prog:=CF.of2 noNG mixed (l:=[]) .nil 3000 (by kernel_rfl)
def KKnown719:CF:=⟨86,[.agg ⟨[vJ 1,vI 2,vI 0,vI 0,vJ 1723,vJ 1723]⟩,vI 1000000],vT⟩
theorem kKnown719:KKnown719.Ok Try.prog:=CF.of2 noNG mixed (l:=[]) .nil 3000 (by kernel_rfl)
def KKnown720:CF:=⟨68,[.agg wKnown57],vF⟩
theorem kKnown720:KKnown720.Ok Try.prog:=CF.of2 noNG mixed (l:=[KKnown718,KKnown719]) (.cons kKnown718 (.cons kKnown719 .nil)) 3000 (by kernel_rfl)
def KKnown721:CF:=⟨70,[lstV wKnown0 0 1 13,vI 38],.agg ⟨[vI 0,vI 0,vI 0,vI 10,vI 10,vI 0,vI 0,vI 0,vI 0,vI 0,vI 0,vI 0,vI 0]⟩⟩
theorem kKnown721:KKnown721.Ok Try.prog:=CF.of2 noNG mixed (l:=[]) .nil 3000 (by kernel_rfl)
def KKnown722:CF:=⟨55,[lstV wKnown2 0 2 7,.agg ⟨[vI 2382,vI 2382]⟩,.func (.func 57) ⟨[]⟩ ⟨[]⟩],.agg ⟨[vI 300,vI 300,vI 0,vI 0,vI 0,vI 0]⟩⟩
theorem kKnown722:KKnown722.Ok Try.prog:=CF.of2 noNG mixed (l:=[]) .nil 3000 (by kernel_rfl)
def KKnown723:CF:=⟨91,[.agg ⟨[vJ 1,vI 2,vI 0,vI 0,vJ 1723,vJ 1723]⟩,.func (.func 98) ⟨[]⟩ ⟨[]⟩,.agg ⟨[vI 300,vI 300,vI 0,vI 0,vI 0,vI 0]⟩],.agg ⟨[vJ 301,vJ 297,vI 0,vI 0,vJ 1723,vJ 1723]⟩⟩
theorem kKnown723:KKnown723.Ok Try.prog:=CF.of2 noNG mixed (l:=[]) .nil 3000 (by kernel_rfl)
def KKnown724:CF:=⟨125,[.agg ⟨[vI 3060980,vI 3063380]⟩],.agg ⟨[vI 1749,vI 1751]⟩⟩
theorem kKnown724:KKnown724.Ok Try.prog:=CF.of2 noNG mixed (l:=[]) .nil 3000 (by kernel_rfl)
def KKnown725:CF:=⟨116,[.agg ⟨[vJ 301,vJ 297,vI 0,vI 0,vJ 1723,vJ 1723]⟩],.agg ⟨[vI 1749,vI 1751]⟩⟩
theorem kKnown725:KKnown725.Ok Try.prog:=CF.of2 noNG mixed (l:=[KKnown724]) (.cons kKnown724 .nil) 3000 (by kernel_rfl)
def KKnown726:CF:=⟨91,[.agg ⟨[vJ 301,vJ 297,vI 0,vI 0,vJ 1723,vJ 1723]⟩,.func (.func 111) ⟨[]⟩ ⟨[]⟩,.agg ⟨[vI 0,vI 0,vI 0,vI 0,vI 0,vI 0]⟩],.agg ⟨[vI 0,vI 0,vI 0,vI 0,vI 0,vI 0]⟩⟩
theorem kKnown726:KKnown726.Ok Try.prog:=CF.of2 noNG mixed (l:=[]) .nil 3000 (by kernel_rfl)
def KKnown727:CF:=⟨112,[.agg ⟨[vJ 301,vJ 297,vI 0,vI 0,vJ 1723,vJ 1723]⟩,.func (.func 111) ⟨[]⟩ ⟨[]⟩,.agg ⟨[vI 0,vI 0]⟩],.agg ⟨[vI 0,vI 0,vI 0,vI 0,vI 0,vI 0]⟩⟩
theorem kKnown727:KKnown727.Ok Try.prog:=CF.of2 noNG mixed (l:=[KKnown726]) (.cons kKnown726 .nil) 3000 (by kernel_rfl)
def KKnown728:CF:=⟨99,[.agg wKnown5,.agg ⟨[vI 0,vI 0,vI 0,vI 10,vI 10,vI 0,vI 0,vI 0,vI 0,vI 0,vI 0,vI 0,vI 0]⟩,.agg wKnown57],.agg ⟨[vI 0,vI 0,vI 0,vI 0,vI 0,vI 0]⟩⟩
theorem kKnown728:KKnown728.Ok Try.prog:=CF.of2 noNG mixed (l:=[KKnown722,KKnown723,KKnown725,KKnown727,KKnown27]) (.cons kKnown722 (.cons kKnown723 (.cons kKnown725 (.cons kKnown727 (.cons kKnown27 .nil))))) 3000 (by kernel_rfl)
def KKnown729:CF:=⟨69,[.agg wKnown5,.agg ⟨[vI 0,vI 0,vI 0,vI 10,vI 10,vI 0,vI 0,vI 0,vI 0,vI 0,vI 0,vI 0,vI 0]⟩,.agg wKnown57],.agg ⟨[vI 0,vI 0,vI 0,vI 0,vJ 97,vJ 97]⟩⟩
theorem kKnown729:KKnown729.Ok Try.prog:=CF.of2 noNG mixed (l:=[KKnown728,KKnown41,KKnown40,KKnown77]) (.cons kKnown728 (.cons kKnown41 (.cons kKnown40 (.cons kKnown77 .nil)))) 3000 (by kernel_rfl)
def KKnown730:CF:=⟨91,[.agg ⟨[vJ 1,vI 2,vI 0,vI 0,vJ 1723,vJ 1723]⟩,.func (.func 105) ⟨[]⟩ ⟨[]⟩,.agg ⟨[vI 0,vI 0,vI 0,vI 0,vJ 97,vJ 97]⟩],.agg ⟨[vJ 1,vI 2,vI 0,vI 0,vJ 1821,vJ 1821]⟩⟩
theorem kKnown730:KKnown730.Ok Try.prog:=CF.of2 noNG mixed (l:=[]) .nil 3000 (by kernel_rfl)
def KKnown731:CF:=⟨91,[.agg ⟨[vJ 74,vI 75,vI 0,vI 0,vI 2382,vI 2382]⟩,.func (.func 105) ⟨[]⟩ ⟨[]⟩,.agg ⟨[vJ 1,vI 2,vI 0,vI 0,vJ 1821,vJ 1821]⟩],.agg ⟨[vJ 76,vI 77,vI 0,vI 0,vI 560,vI 560]⟩⟩
theorem kKnown731:KKnown731.Ok Try.prog:=CF.of2 noNG mixed (l:=[]) .nil 3000 (by kernel_rfl)
def KKnown732:CF:=⟨119,[.agg wKnown57,.agg ⟨[vI 0,vI 0,vI 0,vI 0,vJ 97,vJ 97]⟩],.agg wKnown58⟩
theorem kKnown732:KKnown732.Ok Try.prog:=CF.of2 noNG mixed (l:=[KKnown730,KKnown731]) (.cons kKnown730 (.cons kKnown731 .nil)) 3000 (by kernel_rfl)
def KKnown733:CF:=⟨86,[.agg ⟨[vJ 76,vI 77,vI 0,vI 0,vI 560,vI 560]⟩,vI 2000000000],vT⟩
theorem kKnown733:KKnown733.Ok Try.prog:=CF.of2 noNG mixed (l:=[]) .nil 3000 (by kernel_rfl)
def KKnown734:CF:=⟨86,[.agg ⟨[vJ 1,vI 2,vI 0,vI 0,vJ 1821,vJ 1821]⟩,vI 1000000],vT⟩
theorem kKnown734:KKnown734.Ok Try.prog:=CF.of2 noNG mixed (l:=[]) .nil 3000 (by kernel_rfl)
def KKnown735:CF:=⟨68,[.agg wKnown58],vF⟩
theorem kKnown735:KKnown735.Ok Try.prog:=CF.of2 noNG mixed (l:=[KKnown733,KKnown734]) (.cons kKnown733 (.cons kKnown734 .nil)) 3000 (by kernel_rfl)
def KKnown736:CF:=⟨70,[lstV wKnown0 0 1 13,vI 39],.agg ⟨[vI 0,vI 0,vI 0,vI 10,vI 10,vI 0,vI 0,vI 0,vI 0,vI 0,vI 0,vI 0,vI 0]⟩⟩
theorem kKnown736:KKnown736.Ok Try.prog:=CF.of2 noNG mixed (l:=[]) .nil 3000 (by kernel_rfl)
def KKnown737:CF:=⟨55,[lstV wKnown2 0 2 7,.agg ⟨[vI 560,vI 560]⟩,.func (.func 57) ⟨[]⟩ ⟨[]⟩],.agg ⟨[vI 300,vI 300,vI 0,vI 0,vI 0,vI 0]⟩⟩
theorem kKnown737:KKnown737.Ok Try.prog:=CF.of2 noNG mixed (l:=[]) .nil 3000 (by kernel_rfl)
def KKnown738:CF:=⟨91,[.agg ⟨[vJ 1,vI 2,vI 0,vI 0,vJ 1821,vJ 1821]⟩,.func (.func 98) ⟨[]⟩ ⟨[]⟩,.agg ⟨[vI 300,vI 300,vI 0,vI 0,vI 0,vI 0]⟩],.agg ⟨[vJ 301,vJ 297,vI 0,vI 0,vJ 1821,vJ 1821]⟩⟩
theorem kKnown738:KKnown738.Ok Try.prog:=CF.of2 noNG mixed (l:=[]) .nil 3000 (by kernel_rfl)
def KKnown739:CF:=⟨125,[.agg ⟨[vI 3408488,vI 3410888]⟩],.agg ⟨[vI 1846,vI 1847]⟩⟩
theorem kKnown739:KKnown739.Ok Try.prog:=CF.of2 noNG mixed (l:=[]) .nil 3000 (by kernel_rfl)
def KKnown740:CF:=⟨116,[.agg ⟨[vJ 301,vJ 297,vI 0,vI 0,vJ 1821,vJ 1821]⟩],.agg ⟨[vI 1846,vI 1847]⟩⟩
theorem kKnown740:KKnown740.Ok Try.prog:=CF.of2 noNG mixed (l:=[KKnown739]) (.cons kKnown739 .nil) 3000 (by kernel_rfl)
def KKnown741:CF:=⟨91,[.agg ⟨[vJ 301,vJ 297,vI 0,vI 0,vJ 1821,vJ 1821]⟩,.func (.func 111) ⟨[]⟩ ⟨[]⟩,.agg ⟨[vI 0,vI 0,vI 0,vI 0,vI 0,vI 0]⟩],.agg ⟨[vI 0,vI 0,vI 0,vI 0,vI 0,vI 0]⟩⟩
theorem kKnown741:KKnown741.Ok Try.prog:=CF.of2 noNG mixed (l:=[]) .nil 3000 (by kernel_rfl)
def KKnown742:CF:=⟨112,[.agg ⟨[vJ 301,vJ 297,vI 0,vI 0,vJ 1821,vJ 1821]⟩,.func (.func 111) ⟨[]⟩ ⟨[]⟩,.agg ⟨[vI 0,vI 0]⟩],.agg ⟨[vI 0,vI 0,vI 0,vI 0,vI 0,vI 0]⟩⟩
theorem kKnown742:KKnown742.Ok Try.prog:=CF.of2 noNG mixed (l:=[KKnown741]) (.cons kKnown741 .nil) 3000 (by kernel_rfl)
def KKnown743:CF:=⟨99,[.agg wKnown5,.agg ⟨[vI 0,vI 0,vI 0,vI 10,vI 10,vI 0,vI 0,vI 0,vI 0,vI 0,vI 0,vI 0,vI 0]⟩,.agg wKnown58],.agg ⟨[vI 0,vI 0,vI 0,vI 0,vI 0,vI 0]⟩⟩
theorem kKnown743:KKnown743.Ok Try.prog:=CF.of2 noNG mixed (l:=[KKnown737,KKnown738,KKnown740,KKnown742,KKnown27]) (.cons kKnown737 (.cons kKnown738 (.cons kKnown740 (.cons kKnown742 (.cons kKnown27 .nil))))) 3000 (by kernel_rfl)
def KKnown744:CF:=⟨69,[.agg wKnown5,.agg ⟨[vI 0,vI 0,vI 0,vI 10,vI 10,vI 0,vI 0,vI 0,vI 0,vI 0,vI 0,vI 0,vI 0]⟩,.agg wKnown58],.agg ⟨[vI 0,vI 0,vI 0,vI 0,vJ 97,vJ 97]⟩⟩
theorem kKnown744:KKnown744.Ok Try.prog:=CF.of2 noNG mixed (l:=[KKnown40,KKnown41,KKnown77,KKnown743]) (.cons kKnown40 (.cons kKnown41 (.cons kKnown77 (.cons kKnown743 .nil)))) 3000 (by kernel_rfl)
def KKnown745:CF:=⟨91,[.agg ⟨[vJ 1,vI 2,vI 0,vI 0,vJ 1821,vJ 1821]⟩,.func (.func 105) ⟨[]⟩ ⟨[]⟩,.agg ⟨[vI 0,vI 0,vI 0,vI 0,vJ 97,vJ 97]⟩],.agg ⟨[vJ 1,vI 2,vI 0,vI 0,vJ 1919,vJ 1919]⟩⟩
theorem kKnown745:KKnown745.Ok Try.prog:=CF.of2 noNG mixed (l:=[]) .nil 3000 (by kernel_rfl)
def KKnown746:CF:=⟨91,[.agg ⟨[vJ 76,vI 77,vI 0,vI 0,vI 560,vI 560]⟩,.func (.func 105) ⟨[]⟩ ⟨[]⟩,.agg ⟨[vJ 1,vI 2,vI 0,vI 0,vJ 1919,vJ 1919]⟩],.agg ⟨[vJ 78,vI 79,vI 0,vI 0,vJ 1359,vJ 1359]⟩⟩
theorem kKnown746:KKnown746.Ok Try.prog:=CF.of2 noNG mixed (l:=[]) .nil 3000 (by kernel_rfl)
def KKnown747:CF:=⟨119,[.agg wKnown58,.agg ⟨[vI 0,vI 0,vI 0,vI 0,vJ 97,vJ 97]⟩],.agg wKnown59⟩
theorem kKnown747:KKnown747.Ok Try.prog:=CF.of2 noNG mixed (l:=[KKnown745,KKnown746]) (.cons kKnown745 (.cons kKnown746 .nil)) 3000 (by kernel_rfl)
def KKnown748:CF:=⟨86,[.agg ⟨[vJ 78,vI 79,vI 0,vI 0,vJ 1359,vJ 1359]⟩,vI 2000000000],vT⟩
theorem kKnown748:KKnown748.Ok Try.prog:=CF.of2 noNG mixed (l:=[]) .nil 3000 (by kernel_rfl)
def KKnown749:CF:=⟨86,[.agg ⟨[vJ 1,vI 2,vI 0,vI 0,vJ 1919,vJ 1919]⟩,vI 1000000],vT⟩
theorem kKnown749:KKnown749.Ok Try.prog:=CF.of2 noNG mixed (l:=[]) .nil 3000 (by kernel_rfl)
def KKnown750:CF:=⟨68,[.agg wKnown59],vF⟩
theorem kKnown750:KKnown750.Ok Try.prog:=CF.of2 noNG mixed (l:=[KKnown748,KKnown749]) (.cons kKnown748 (.cons kKnown749 .nil)) 3000 (by kernel_rfl)
def KKnown751:CF:=⟨58,[.agg ⟨[vJ 78,vI 79,vI 0,vI 0,vJ 1359,vJ 1359]⟩],.agg ⟨[vJ 78,vI 79,vI 0,vI 0]⟩⟩
theorem kKnown751:KKnown751.Ok Try.prog:=CF.of2 noNG mixed (l:=[]) .nil 3000 (by kernel_rfl)
end
end Go.Proofs.Ytnmjibcolnlkjaa
