/- RecoverKnown proved: the examples of the document hold. Conditions: none. -/
import Derived.Test.YtapeoolandmefaaMg7
import Derived.Deep.Slices
import Derived.WalkKit
import Derived.ProofKit
import Derived.OpenShut
import Derived.ChangeOld
import Derived.Below
import Derived.Deep.Strs
import Derived.ChangeMaps5
import Derived.Test.YtapeoolandmefaaRows
import Derived.Test.YtapeoolandmefaaMg6
import Derived.Test.YtapeoolandmefaaMg4
set_option linter.unusedVariables false
set_option linter.unusedSimpArgs false
namespace Go.Proofs.Ytapeoolandmefaa
open Go.Gi Go.RowKit
noncomputable section
set_option maxRecDepth 100000
set_option maxHeartbeats 4000000
def KKnown310:CF:=⟨38,[vI 0,vI 1000],.agg ⟨[vI 0,vI 1000]⟩⟩
theorem kKnown310:KKnown310.Ok Try.prog:=CF.of2 noNG mixed (l:=[]) .nil 3000 (by kernel_rfl)
def KKnown311:CF:=⟨23,[vI 0,vI 1000,vI 0,vI 1000],.agg ⟨[vI 0,vI 1000,vI 0,vI 1000]⟩⟩
theorem kKnown311:KKnown311.Ok Try.prog:=CF.of2 noNG mixed (l:=[KKnown310]) (.cons kKnown310 .nil) 3000 (by kernel_rfl)
def KKnown312:CF:=⟨38,[vI 500,vI 510],.agg ⟨[vI 500,vI 510]⟩⟩
theorem kKnown312:KKnown312.Ok Try.prog:=CF.of2 noNG mixed (l:=[]) .nil 3000 (by kernel_rfl)
def KKnown313:CF:=⟨54,[],.agg ⟨[vI 0,vI 0,vI 1000,vI 0,vI 1000,vI 500,vI 510]⟩⟩
theorem kKnown313:KKnown313.Ok Try.prog:=CF.of2 noNG mixed (l:=[KKnown312,KKnown311]) (.cons kKnown312 (.cons kKnown311 .nil)) 3000 (by kernel_rfl)
def KKnown314:CF:=⟨38,[vI 50,vI 60],.agg ⟨[vI 50,vI 60]⟩⟩
theorem kKnown314:KKnown314.Ok Try.prog:=CF.of2 noNG mixed (l:=[]) .nil 3000 (by kernel_rfl)
def KKnown315:CF:=⟨55,[],.agg ⟨[vI 300000,vI 50,vI 60]⟩⟩
theorem kKnown315:KKnown315.Ok Try.prog:=CF.of2 noNG mixed (l:=[KKnown314]) (.cons kKnown314 .nil) 3000 (by kernel_rfl)
def KKnown316:CF:=⟨56,[],lstV wKnown13 0 2 6⟩
theorem kKnown316:KKnown316.Ok Try.prog:=CF.of2 noNG mixed (l:=[]) .nil 3000 (by kernel_rfl)
def KKnown317:CF:=⟨40,[vI 300000,vI 1,vI 100000000],vT⟩
theorem kKnown317:KKnown317.Ok Try.prog:=CF.of2 noNG mixed (l:=[]) .nil 3000 (by kernel_rfl)
def KKnown318:CF:=⟨41,[.agg ⟨[vI 50,vI 60]⟩,vI 1,vI 10000],vT⟩
theorem kKnown318:KKnown318.Ok Try.prog:=CF.of2 noNG mixed (l:=[]) .nil 3000 (by kernel_rfl)
def KKnown319:CF:=⟨13,[.agg ⟨[vI 300000,vI 50,vI 60]⟩],vI 0⟩
theorem kKnown319:KKnown319.Ok Try.prog:=CF.of2 noNG mixed (l:=[KKnown317,KKnown318]) (.cons kKnown317 (.cons kKnown318 .nil)) 3000 (by kernel_rfl)
def KKnown320:CF:=⟨123,[vI 600],vT⟩
theorem kKnown320:KKnown320.Ok Try.prog:=CF.of2 noNG mixed (l:=[]) .nil 3000 (by kernel_rfl)
def KKnown321:CF:=⟨123,[vI 780],vT⟩
theorem kKnown321:KKnown321.Ok Try.prog:=CF.of2 noNG mixed (l:=[]) .nil 3000 (by kernel_rfl)
def KKnown322:CF:=⟨102,[.agg ⟨[vI 600,vI 780]⟩],vT⟩
theorem kKnown322:KKnown322.Ok Try.prog:=CF.of2 noNG mixed (l:=[KKnown320,KKnown321]) (.cons kKnown320 (.cons kKnown321 .nil)) 3000 (by kernel_rfl)
def KKnown323:CF:=⟨123,[vJ 149],vT⟩
theorem kKnown323:KKnown323.Ok Try.prog:=CF.of2 noNG mixed (l:=[]) .nil 3000 (by kernel_rfl)
def KKnown324:CF:=⟨123,[vI 80],vT⟩
theorem kKnown324:KKnown324.Ok Try.prog:=CF.of2 noNG mixed (l:=[]) .nil 3000 (by kernel_rfl)
def KKnown325:CF:=⟨102,[.agg ⟨[vJ 149,vI 80]⟩],vT⟩
theorem kKnown325:KKnown325.Ok Try.prog:=CF.of2 noNG mixed (l:=[KKnown323,KKnown324]) (.cons kKnown323 (.cons kKnown324 .nil)) 3000 (by kernel_rfl)
def KKnown326:CF:=⟨75,[.agg ⟨[vI 0,vI 200000,vI 600,vI 780,vJ 149,vI 80]⟩,vI 0],vI 0⟩
theorem kKnown326:KKnown326.Ok Try.prog:=CF.of2 noNG mixed (l:=[KKnown322,KKnown325]) (.cons kKnown322 (.cons kKnown325 .nil)) 3000 (by kernel_rfl)
def KKnown327:CF:=⟨123,[vI 640],vT⟩
theorem kKnown327:KKnown327.Ok Try.prog:=CF.of2 noNG mixed (l:=[]) .nil 3000 (by kernel_rfl)
def KKnown328:CF:=⟨123,[vI 740],vT⟩
theorem kKnown328:KKnown328.Ok Try.prog:=CF.of2 noNG mixed (l:=[]) .nil 3000 (by kernel_rfl)
def KKnown329:CF:=⟨102,[.agg ⟨[vI 640,vI 740]⟩],vT⟩
theorem kKnown329:KKnown329.Ok Try.prog:=CF.of2 noNG mixed (l:=[KKnown328,KKnown327]) (.cons kKnown328 (.cons kKnown327 .nil)) 3000 (by kernel_rfl)
def KKnown330:CF:=⟨123,[vJ 109],vT⟩
theorem kKnown330:KKnown330.Ok Try.prog:=CF.of2 noNG mixed (l:=[]) .nil 3000 (by kernel_rfl)
def KKnown331:CF:=⟨123,[vI 240],vT⟩
theorem kKnown331:KKnown331.Ok Try.prog:=CF.of2 noNG mixed (l:=[]) .nil 3000 (by kernel_rfl)
def KKnown332:CF:=⟨102,[.agg ⟨[vJ 109,vI 240]⟩],vT⟩
theorem kKnown332:KKnown332.Ok Try.prog:=CF.of2 noNG mixed (l:=[KKnown330,KKnown331]) (.cons kKnown330 (.cons kKnown331 .nil)) 3000 (by kernel_rfl)
def KKnown333:CF:=⟨75,[.agg ⟨[vI 200000,vI 1000000,vI 640,vI 740,vJ 109,vI 240]⟩,vI 200000],vI 0⟩
theorem kKnown333:KKnown333.Ok Try.prog:=CF.of2 noNG mixed (l:=[KKnown329,KKnown332]) (.cons kKnown329 (.cons kKnown332 .nil)) 3000 (by kernel_rfl)
def KKnown334:CF:=⟨43,[lstV wKnown13 0 2 6],.tuple ⟨[vI 0,vI 0]⟩⟩
theorem kKnown334:KKnown334.Ok Try.prog:=CF.of2 noNG mixed (l:=[KKnown333,KKnown326]) (.cons kKnown333 (.cons kKnown326 .nil)) 3000 (by kernel_rfl)
def KKnown335:CF:=⟨41,[.agg ⟨[vI 0,vI 1000]⟩,vJ 1999999999,vI 2000000000],vT⟩
theorem kKnown335:KKnown335.Ok Try.prog:=CF.of2 noNG mixed (l:=[]) .nil 3000 (by kernel_rfl)
def KKnown336:CF:=⟨41,[.agg ⟨[vI 500,vI 510]⟩,vI 0,vI 100000],vT⟩
theorem kKnown336:KKnown336.Ok Try.prog:=CF.of2 noNG mixed (l:=[]) .nil 3000 (by kernel_rfl)
def KKnown337:CF:=⟨44,[.agg ⟨[vI 0,vI 0,vI 1000,vI 0,vI 1000,vI 500,vI 510]⟩],vT⟩
theorem kKnown337:KKnown337.Ok Try.prog:=CF.of2 noNG mixed (l:=[KKnown335,KKnown336]) (.cons kKnown335 (.cons kKnown336 .nil)) 3000 (by kernel_rfl)
def KKnown338:CF:=⟨76,[.agg ⟨[vI 600,vI 780]⟩,vI 200000],.agg ⟨[vI 120000000,vI 156000000]⟩⟩
theorem kKnown338:KKnown338.Ok Try.prog:=CF.of2 noNG mixed (l:=[]) .nil 3000 (by kernel_rfl)
def KKnown339:CF:=⟨46,[.agg ⟨[vI 0,vI 0]⟩,.agg ⟨[vI 120000000,vI 156000000]⟩],.agg ⟨[vI 120000000,vI 156000000]⟩⟩
theorem kKnown339:KKnown339.Ok Try.prog:=CF.of2 noNG mixed (l:=[]) .nil 3000 (by kernel_rfl)
def KKnown340:CF:=⟨76,[.agg ⟨[vJ 149,vI 80]⟩,vI 200000],.agg ⟨[vJ 29999999,vI 16000000]⟩⟩
theorem kKnown340:KKnown340.Ok Try.prog:=CF.of2 noNG mixed (l:=[]) .nil 3000 (by kernel_rfl)
def KKnown341:CF:=⟨46,[.agg ⟨[vI 0,vI 0]⟩,.agg ⟨[vJ 29999999,vI 16000000]⟩],.agg ⟨[vJ 29999999,vI 16000000]⟩⟩
theorem kKnown341:KKnown341.Ok Try.prog:=CF.of2 noNG mixed (l:=[]) .nil 3000 (by kernel_rfl)
def KKnown342:CF:=⟨76,[.agg ⟨[vI 640,vI 740]⟩,vI 100000],.agg ⟨[vI 64000000,vI 74000000]⟩⟩
theorem kKnown342:KKnown342.Ok Try.prog:=CF.of2 noNG mixed (l:=[]) .nil 3000 (by kernel_rfl)
def KKnown343:CF:=⟨46,[.agg ⟨[vI 120000000,vI 156000000]⟩,.agg ⟨[vI 64000000,vI 74000000]⟩],.agg ⟨[vI 184000000,vI 230000000]⟩⟩
theorem kKnown343:KKnown343.Ok Try.prog:=CF.of2 noNG mixed (l:=[]) .nil 3000 (by kernel_rfl)
def KKnown344:CF:=⟨76,[.agg ⟨[vJ 109,vI 240]⟩,vI 100000],.agg ⟨[vJ 10999999,vI 24000000]⟩⟩
theorem kKnown344:KKnown344.Ok Try.prog:=CF.of2 noNG mixed (l:=[]) .nil 3000 (by kernel_rfl)
def KKnown345:CF:=⟨46,[.agg ⟨[vJ 29999999,vI 16000000]⟩,.agg ⟨[vJ 10999999,vI 24000000]⟩],.agg ⟨[vJ 40999999,vI 40000000]⟩⟩
theorem kKnown345:KKnown345.Ok Try.prog:=CF.of2 noNG mixed (l:=[]) .nil 3000 (by kernel_rfl)
def KKnown346:CF:=⟨45,[lstV wKnown13 0 2 6,vI 300000],.tuple wKnown14⟩
theorem kKnown346:KKnown346.Ok Try.prog:=CF.of2 noNG mixed (l:=[KKnown338,KKnown339,KKnown340,KKnown341,KKnown342,KKnown343,KKnown344,KKnown345]) (.cons kKnown338 (.cons kKnown339 (.cons kKnown340 (.cons kKnown341 (.cons kKnown342 (.cons kKnown343 (.cons kKnown344 (.cons kKnown345 .nil)))))))) 3000 (by kernel_rfl)
def KKnown347:CF:=⟨77,[vI 184000000,vI 50],vI 3680000⟩
theorem kKnown347:KKnown347.Ok Try.prog:=CF.of2 noNG mixed (l:=[]) .nil 3000 (by kernel_rfl)
def KKnown348:CF:=⟨77,[vI 184000000,vI 60],vI 3066666⟩
theorem kKnown348:KKnown348.Ok Try.prog:=CF.of2 noNG mixed (l:=[]) .nil 3000 (by kernel_rfl)
def KKnown349:CF:=⟨77,[vJ 229999999,vI 50],vJ 4599999⟩
theorem kKnown349:KKnown349.Ok Try.prog:=CF.of2 noNG mixed (l:=[]) .nil 3000 (by kernel_rfl)
def KKnown350:CF:=⟨78,[vI 230000000,vI 50],vI 4600000⟩
theorem kKnown350:KKnown350.Ok Try.prog:=CF.of2 noNG mixed (l:=[KKnown349]) (.cons kKnown349 .nil) 3000 (by kernel_rfl)
def KKnown351:CF:=⟨77,[vJ 229999999,vI 60],vJ 3833333⟩
theorem kKnown351:KKnown351.Ok Try.prog:=CF.of2 noNG mixed (l:=[]) .nil 3000 (by kernel_rfl)
def KKnown352:CF:=⟨78,[vI 230000000,vI 60],vI 3833334⟩
theorem kKnown352:KKnown352.Ok Try.prog:=CF.of2 noNG mixed (l:=[KKnown351]) (.cons kKnown351 .nil) 3000 (by kernel_rfl)
def KKnown353:CF:=⟨47,[.agg ⟨[vI 184000000,vI 230000000]⟩,.agg ⟨[vI 50,vI 60]⟩],.agg ⟨[vI 3066666,vI 4600000]⟩⟩
theorem kKnown353:KKnown353.Ok Try.prog:=CF.of2 noNG mixed (l:=[KKnown352,KKnown347,KKnown348,KKnown350]) (.cons kKnown352 (.cons kKnown347 (.cons kKnown348 (.cons kKnown350 .nil)))) 3000 (by kernel_rfl)
def KKnown354:CF:=⟨46,[.agg ⟨[vI 0,vI 1000]⟩,.agg ⟨[vI 3066666,vI 4600000]⟩],.agg ⟨[vI 3066666,vI 4601000]⟩⟩
theorem kKnown354:KKnown354.Ok Try.prog:=CF.of2 noNG mixed (l:=[]) .nil 3000 (by kernel_rfl)
def KKnown355:CF:=⟨77,[vJ 40999999,vI 50],vJ 819999⟩
theorem kKnown355:KKnown355.Ok Try.prog:=CF.of2 noNG mixed (l:=[]) .nil 3000 (by kernel_rfl)
def KKnown356:CF:=⟨77,[vJ 40999999,vI 60],vJ 683333⟩
theorem kKnown356:KKnown356.Ok Try.prog:=CF.of2 noNG mixed (l:=[]) .nil 3000 (by kernel_rfl)
def KKnown357:CF:=⟨77,[vJ 39999999,vI 50],vJ 799999⟩
theorem kKnown357:KKnown357.Ok Try.prog:=CF.of2 noNG mixed (l:=[]) .nil 3000 (by kernel_rfl)
def KKnown358:CF:=⟨78,[vI 40000000,vI 50],vI 800000⟩
theorem kKnown358:KKnown358.Ok Try.prog:=CF.of2 noNG mixed (l:=[KKnown357]) (.cons kKnown357 .nil) 3000 (by kernel_rfl)
def KKnown359:CF:=⟨77,[vJ 39999999,vI 60],vJ 666666⟩
theorem kKnown359:KKnown359.Ok Try.prog:=CF.of2 noNG mixed (l:=[]) .nil 3000 (by kernel_rfl)
def KKnown360:CF:=⟨78,[vI 40000000,vI 60],vI 666667⟩
theorem kKnown360:KKnown360.Ok Try.prog:=CF.of2 noNG mixed (l:=[KKnown359]) (.cons kKnown359 .nil) 3000 (by kernel_rfl)
def KKnown361:CF:=⟨47,[.agg ⟨[vJ 40999999,vI 40000000]⟩,.agg ⟨[vI 50,vI 60]⟩],.agg ⟨[vJ 819999,vI 800000]⟩⟩
theorem kKnown361:KKnown361.Ok Try.prog:=CF.of2 noNG mixed (l:=[KKnown360,KKnown355,KKnown356,KKnown358]) (.cons kKnown360 (.cons kKnown355 (.cons kKnown356 (.cons kKnown358 .nil)))) 3000 (by kernel_rfl)
def KKnown362:CF:=⟨46,[.agg ⟨[vI 0,vI 1000]⟩,.agg ⟨[vJ 819999,vI 800000]⟩],.agg ⟨[vJ 819999,vI 801000]⟩⟩
theorem kKnown362:KKnown362.Ok Try.prog:=CF.of2 noNG mixed (l:=[]) .nil 3000 (by kernel_rfl)
def KKnown363:CF:=⟨77,[vI 300000,vI 50],vI 6000⟩
theorem kKnown363:KKnown363.Ok Try.prog:=CF.of2 noNG mixed (l:=[]) .nil 3000 (by kernel_rfl)
def KKnown364:CF:=⟨77,[vI 300000,vI 60],vI 5000⟩
theorem kKnown364:KKnown364.Ok Try.prog:=CF.of2 noNG mixed (l:=[]) .nil 3000 (by kernel_rfl)
def KKnown365:CF:=⟨77,[vJ 299999,vI 50],vJ 5999⟩
theorem kKnown365:KKnown365.Ok Try.prog:=CF.of2 noNG mixed (l:=[]) .nil 3000 (by kernel_rfl)
def KKnown366:CF:=⟨78,[vI 300000,vI 50],vI 6000⟩
theorem kKnown366:KKnown366.Ok Try.prog:=CF.of2 noNG mixed (l:=[KKnown365]) (.cons kKnown365 .nil) 3000 (by kernel_rfl)
def KKnown367:CF:=⟨77,[vJ 299999,vI 60],vJ 4999⟩
theorem kKnown367:KKnown367.Ok Try.prog:=CF.of2 noNG mixed (l:=[]) .nil 3000 (by kernel_rfl)
def KKnown368:CF:=⟨78,[vI 300000,vI 60],vI 5000⟩
theorem kKnown368:KKnown368.Ok Try.prog:=CF.of2 noNG mixed (l:=[KKnown367]) (.cons kKnown367 .nil) 3000 (by kernel_rfl)
def KKnown369:CF:=⟨47,[.agg ⟨[vI 300000,vI 300000]⟩,.agg ⟨[vI 50,vI 60]⟩],.agg ⟨[vI 5000,vI 6000]⟩⟩
theorem kKnown369:KKnown369.Ok Try.prog:=CF.of2 noNG mixed (l:=[KKnown368,KKnown363,KKnown364,KKnown366]) (.cons kKnown368 (.cons kKnown363 (.cons kKnown364 (.cons kKnown366 .nil)))) 3000 (by kernel_rfl)
def KKnown370:CF:=⟨46,[.agg ⟨[vI 500,vI 510]⟩,.agg ⟨[vI 5000,vI 6000]⟩],.agg ⟨[vI 5500,vI 6510]⟩⟩
theorem kKnown370:KKnown370.Ok Try.prog:=CF.of2 noNG mixed (l:=[]) .nil 3000 (by kernel_rfl)
def KKnown371:CF:=⟨15,[.agg ⟨[vI 0,vI 0,vI 1000,vI 0,vI 1000,vI 500,vI 510]⟩,.agg ⟨[vI 300000,vI 50,vI 60]⟩,lstV wKnown13 0 2 6],.tuple wKnown15⟩
theorem kKnown371:KKnown371.Ok Try.prog:=CF.of2 noNG mixed (l:=[KKnown353,KKnown354,KKnown361,KKnown362,KKnown334,KKnown337,KKnown369,KKnown370,KKnown346,KKnown319]) (.cons kKnown353 (.cons kKnown354 (.cons kKnown361 (.cons kKnown362 (.cons kKnown334 (.cons kKnown337 (.cons kKnown369 (.cons kKnown370 (.cons kKnown346 (.cons kKnown319 .nil)))))))))) 3000 (by kernel_rfl)
def KKnown372:CF:=⟨95,[.agg ⟨[vI 3,vI 65,vI 75]⟩],vI 75⟩
theorem kKnown372:KKnown372.Ok Try.prog:=CF.of2 noNG mixed (l:=[]) .nil 3000 (by kernel_rfl)
def KKnown373:CF:=⟨28,[.agg wKnown1],.tuple ⟨[.agg ⟨[lstV wKnown7 0 5 3,lstV ⟨[vI 4,vI 1]⟩ 0 1 2]⟩,vI 0]⟩⟩
theorem kKnown373:KKnown373.Ok Try.prog:=CF.of2 noNG mixed (l:=[KKnown246,KKnown237,KKnown217,KKnown225,KKnown252,KKnown280,KKnown282,KKnown201,KKnown239,KKnown278,KKnown281,KKnown289,KKnown208,KKnown231,KKnown279,KKnown283,KKnown286,KKnown287,KKnown288,KKnown290,KKnown178,KKnown218,KKnown228,KKnown238,KKnown372,KKnown249]) (.cons kKnown246 (.cons kKnown237 (.cons kKnown217 (.cons kKnown225 (.cons kKnown252 (.cons kKnown280 (.cons kKnown282 (.cons kKnown201 (.cons kKnown239 (.cons kKnown278 (.cons kKnown281 (.cons kKnown289 (.cons kKnown208 (.cons kKnown231 (.cons kKnown279 (.cons kKnown283 (.cons kKnown286 (.cons kKnown287 (.cons kKnown288 (.cons kKnown290 (.cons kKnown178 (.cons kKnown218 (.cons kKnown228 (.cons kKnown238 (.cons kKnown372 (.cons kKnown249 .nil)))))))))))))))))))))))))) 3000 (by kernel_rfl)
def KKnown374:CF:=⟨40,[vI 500,vI 0,vI 999],vT⟩
theorem kKnown374:KKnown374.Ok Try.prog:=CF.of2 noNG mixed (l:=[]) .nil 3000 (by kernel_rfl)
def KKnown375:CF:=⟨40,[vI 1500,vI 0,vI 999],vF⟩
theorem kKnown375:KKnown375.Ok Try.prog:=CF.of2 noNG mixed (l:=[]) .nil 3000 (by kernel_rfl)
def KKnown376:CF:=⟨40,[vI 500,vI 1000,vI 1999],vF⟩
theorem kKnown376:KKnown376.Ok Try.prog:=CF.of2 noNG mixed (l:=[]) .nil 3000 (by kernel_rfl)
def KKnown377:CF:=⟨40,[vI 500,vI 2000,vI 2999],vF⟩
theorem kKnown377:KKnown377.Ok Try.prog:=CF.of2 noNG mixed (l:=[]) .nil 3000 (by kernel_rfl)
def KKnown378:CF:=⟨24,[.agg wKnown1,.agg ⟨[vI 500,vI 1500]⟩],.tuple ⟨[vI 0,vI 4]⟩⟩
theorem kKnown378:KKnown378.Ok Try.prog:=CF.of2 noNG mixed (l:=[KKnown376,KKnown377,KKnown178,KKnown374,KKnown375]) (.cons kKnown376 (.cons kKnown377 (.cons kKnown178 (.cons kKnown374 (.cons kKnown375 .nil))))) 3000 (by kernel_rfl)
def KKnown379:CF:=⟨38,[vI 3066666,vI 4601000],.agg ⟨[vI 3066666,vI 4601000]⟩⟩
theorem kKnown379:KKnown379.Ok Try.prog:=CF.of2 noNG mixed (l:=[]) .nil 3000 (by kernel_rfl)
def KKnown380:CF:=⟨38,[vJ 819999,vI 801000],.agg ⟨[vJ 819999,vI 801000]⟩⟩
theorem kKnown380:KKnown380.Ok Try.prog:=CF.of2 noNG mixed (l:=[]) .nil 3000 (by kernel_rfl)
def KKnown381:CF:=⟨23,[vI 3066666,vI 4601000,vJ 819999,vI 801000],.agg ⟨[vI 3066666,vI 4601000,vJ 819999,vI 801000]⟩⟩
theorem kKnown381:KKnown381.Ok Try.prog:=CF.of2 noNG mixed (l:=[KKnown379,KKnown380]) (.cons kKnown379 (.cons kKnown380 .nil)) 3000 (by kernel_rfl)
def KKnown382:CF:=⟨38,[vI 5500,vI 6510],.agg ⟨[vI 5500,vI 6510]⟩⟩
theorem kKnown382:KKnown382.Ok Try.prog:=CF.of2 noNG mixed (l:=[]) .nil 3000 (by kernel_rfl)
def KKnown383:CF:=⟨29,[.agg ⟨[lstV wKnown7 0 5 3,lstV ⟨[vI 4,vI 1]⟩ 0 1 2]⟩,.agg ⟨[lstV wKnown7 0 5 3,lstV ⟨[vI 4,vI 1]⟩ 0 1 2]⟩],vT⟩
theorem kKnown383:KKnown383.Ok Try.prog:=CF.of2 noNG mixed (l:=[]) .nil 3000 (by kernel_rfl)
def KKnown384:CF:=⟨17,[],vT⟩
theorem kKnown384:KKnown384.Ok Try.prog:=CF.of2 noNG mixed (l:=[KKnown9,KKnown210,KKnown371,KKnown373,KKnown313,KKnown378,KKnown315,KKnown316,KKnown381,KKnown382,KKnown383]) (.cons kKnown9 (.cons kKnown210 (.cons kKnown371 (.cons kKnown373 (.cons kKnown313 (.cons kKnown378 (.cons kKnown315 (.cons kKnown316 (.cons kKnown381 (.cons kKnown382 (.cons kKnown383 .nil))))))))))) 3000 (by kernel_rfl)
def KKnown385:CF:=⟨5,[],vT⟩
theorem kKnown385:KKnown385.Ok Try.prog:=CF.of2 noNG mixed (l:=[KKnown210,KKnown384,KKnown195,KKnown259,KKnown260,KKnown291,KKnown9,KKnown202,KKnown209,KKnown178,KKnown179,KKnown181,KKnown309,KKnown183,KKnown184,KKnown185,KKnown189]) (.cons kKnown210 (.cons kKnown384 (.cons kKnown195 (.cons kKnown259 (.cons kKnown260 (.cons kKnown291 (.cons kKnown9 (.cons kKnown202 (.cons kKnown209 (.cons kKnown178 (.cons kKnown179 (.cons kKnown181 (.cons kKnown309 (.cons kKnown183 (.cons kKnown184 (.cons kKnown185 (.cons kKnown189 .nil))))))))))))))))) 3000 (by kernel_rfl)
end
end Go.Proofs.Ytapeoolandmefaa
namespace Go.Proofs.Ytapeoolandmefaa
open Go.ChangeShapes Go.WideShapes Go.ChangeAt Go.RowKit Go.Gi
set_option maxRecDepth 100000
theorem own:ownKnob Try.prog.godebug=none:=by kernel_rfl
theorem law5:Fact Try.prog (.call 5 ⟨[]⟩ ⟨[],0,[]⟩) (.ret (.bool true) ⟨[],0,[]⟩):=kKnown385 _
theorem lifted5 (os:Os)(started:os.Started)(H:Type)(enc:TypeId×Value→H) :
    ReturnsInHanded {} Try.checked os 5 .any (Rows.recoverKnownSpec.pre6 enc Try.prog Try.f5 Rows.recoverKnownRow.domain false) (Rows.recoverKnownSpec.post enc Try.prog Try.f5 false true false false):=by
  refine returnsInHanded_of_change (C:=Try.checked) own started (by kernel_rfl) Try.func5
    (ChangeSpec.witness6 (enc:=enc) (C:=Try.checked) false ⟨#[],#[],[]⟩ 20 (by kernel_rfl) (by kernel_rfl) (by kernel_rfl) (by kernel_rfl)) ?_
  intro W base args ds gs before hval0 hW hcnd _;have hW':=hW;obtain ⟨p,q,hA0,hV,rfl,hfz,hnd⟩:=hW
  have hA:DataW.TrodAll enc Try.prog W 0 (fun _=>true) true Try.f5.params.toList args.toList ds p:=hA0
  rw [Try.params5]at hA;obtain ⟨hargs,rfl,rfl⟩:=trodAll_nil hA
  obtain rfl:args=#[]:=by cases args;simp_all
  obtain ⟨rfl,rfl⟩:=trodVars_none hV
  refine (calls_frozen law5 rfl (VRs.nil _)).mono fun e W' ⟨he,bel⟩=>?_
  subst he
  exact ⟨_,rfl,_,_,_,[],_,[],hW',trodAll_mk1 (shut_bool Try.underlying4 _),trodAll_mk0,rfl,bel.frame _,fun h=>by cases h⟩
theorem over5:Rows.recoverKnownRow.holds Try.pinned (OpenSpec.ofChange Rows.recoverKnownSpec) :=
  OpenClaim.holds_of_wide 5 Try.f5 rfl rfl rfl rfl rfl rfl rfl ⟨rfl,rfl,rfl,rfl,rfl⟩ rfl rfl rfl rfl rfl (by kernel_rfl) Try.func5 (by kernel_rfl)
    (of_decide_eq_true (by kernel_rfl)) (by unfold Func.isWrapper;first | (rw [if_pos (by decide +kernel)];kernel_rfl) | (rw [if_neg (by decide +kernel)];exact ⟨rfl,rfl⟩))
    (fun os started H enc _=>lifted5 os started H enc)
theorem recoverKnownProved:Rows.RecoverKnownSaid:=over5
end Go.Proofs.Ytapeoolandmefaa
