/- Part 14 of the texts below the claim. Conditions: none. -/
import Derived.Test.YtggaomgopenkfaaMg13
import Derived.Test.YtggaomgopenkfaaMg9
import Derived.Test.YtggaomgopenkfaaMg10
set_option linter.unusedVariables false
set_option linter.unusedSimpArgs false
namespace Go.Proofs.Ytggaomgopenkfaa
open Go.Gi Go.RowKit
noncomputable section
set_option maxRecDepth 100000
set_option maxHeartbeats 4000000
def KAwake248:CF:=⟨116,[.agg ⟨[vJ 301,vJ 297,vI 0,vI 0,vJ 1233,vJ 1233]⟩],.agg ⟨[vI 1269,vI 1271]⟩⟩
theorem kAwake248:KAwake248.Ok Try.prog:=CF.of2 noNG mixed (l:=[]) .nil 3000 (by kernel_rfl)
def KAwake249:CF:=⟨112,[.agg ⟨[vJ 301,vJ 297,vI 0,vI 0,vJ 1233,vJ 1233]⟩,.func (.func 111) ⟨[]⟩ ⟨[]⟩,.agg ⟨[vI 0,vI 0]⟩],.agg ⟨[vI 0,vI 0,vI 0,vI 0,vI 0,vI 0]⟩⟩
theorem kAwake249:KAwake249.Ok Try.prog:=CF.of2 noNG mixed (l:=[]) .nil 3000 (by kernel_rfl)
def KAwake250:CF:=⟨99,[.agg wAwake4,.agg ⟨[vI 0,vI 0,vI 0,vI 10,vI 10,vI 0,vI 0,vI 0,vI 0,vI 0,vI 0,vI 0,vI 0]⟩,.agg wAwake38],.agg ⟨[vI 0,vI 0,vI 0,vI 0,vI 0,vI 0]⟩⟩
theorem kAwake250:KAwake250.Ok Try.prog:=CF.of2 noNG mixed (l:=[KAwake248,KAwake249,KAwake15]) (.cons kAwake248 (.cons kAwake249 (.cons kAwake15 .nil))) 3000 (by kernel_rfl)
def KAwake251:CF:=⟨69,[.agg wAwake4,.agg ⟨[vI 0,vI 0,vI 0,vI 10,vI 10,vI 0,vI 0,vI 0,vI 0,vI 0,vI 0,vI 0,vI 0]⟩,.agg wAwake38],.agg ⟨[vI 0,vI 0,vI 0,vI 0,vJ 97,vJ 97]⟩⟩
theorem kAwake251:KAwake251.Ok Try.prog:=CF.of2 noNG mixed (l:=[KAwake250,KAwake30]) (.cons kAwake250 (.cons kAwake30 .nil)) 3000 (by kernel_rfl)
def KAwake252:CF:=⟨119,[.agg wAwake38,.agg ⟨[vI 0,vI 0,vI 0,vI 0,vJ 97,vJ 97]⟩],.agg wAwake39⟩
theorem kAwake252:KAwake252.Ok Try.prog:=CF.of2 noNG mixed (l:=[]) .nil 3000 (by kernel_rfl)
def KAwake253:CF:=⟨68,[.agg wAwake39],vF⟩
theorem kAwake253:KAwake253.Ok Try.prog:=CF.of2 noNG mixed (l:=[]) .nil 3000 (by kernel_rfl)
def KAwake254:CF:=⟨70,[lstV wAwake0 0 1 13,vI 34],.agg ⟨[vI 0,vI 0,vI 0,vI 10,vI 10,vI 0,vI 0,vI 0,vI 0,vI 0,vI 0,vI 0,vI 0]⟩⟩
theorem kAwake254:KAwake254.Ok Try.prog:=CF.of2 noNG mixed (l:=[]) .nil 3000 (by kernel_rfl)
def KAwake255:CF:=⟨116,[.agg ⟨[vJ 301,vJ 297,vI 0,vI 0,vJ 1331,vJ 1331]⟩],.agg ⟨[vI 1364,vI 1366]⟩⟩
theorem kAwake255:KAwake255.Ok Try.prog:=CF.of2 noNG mixed (l:=[]) .nil 3000 (by kernel_rfl)
def KAwake256:CF:=⟨112,[.agg ⟨[vJ 301,vJ 297,vI 0,vI 0,vJ 1331,vJ 1331]⟩,.func (.func 111) ⟨[]⟩ ⟨[]⟩,.agg ⟨[vI 0,vI 0]⟩],.agg ⟨[vI 0,vI 0,vI 0,vI 0,vI 0,vI 0]⟩⟩
theorem kAwake256:KAwake256.Ok Try.prog:=CF.of2 noNG mixed (l:=[]) .nil 3000 (by kernel_rfl)
def KAwake257:CF:=⟨99,[.agg wAwake4,.agg ⟨[vI 0,vI 0,vI 0,vI 10,vI 10,vI 0,vI 0,vI 0,vI 0,vI 0,vI 0,vI 0,vI 0]⟩,.agg wAwake39],.agg ⟨[vI 0,vI 0,vI 0,vI 0,vI 0,vI 0]⟩⟩
theorem kAwake257:KAwake257.Ok Try.prog:=CF.of2 noNG mixed (l:=[KAwake256,KAwake15,KAwake255]) (.cons kAwake256 (.cons kAwake15 (.cons kAwake255 .nil))) 3000 (by kernel_rfl)
def KAwake258:CF:=⟨69,[.agg wAwake4,.agg ⟨[vI 0,vI 0,vI 0,vI 10,vI 10,vI 0,vI 0,vI 0,vI 0,vI 0,vI 0,vI 0,vI 0]⟩,.agg wAwake39],.agg ⟨[vI 0,vI 0,vI 0,vI 0,vJ 97,vJ 97]⟩⟩
theorem kAwake258:KAwake258.Ok Try.prog:=CF.of2 noNG mixed (l:=[KAwake257,KAwake30]) (.cons kAwake257 (.cons kAwake30 .nil)) 3000 (by kernel_rfl)
def KAwake259:CF:=⟨119,[.agg wAwake39,.agg ⟨[vI 0,vI 0,vI 0,vI 0,vJ 97,vJ 97]⟩],.agg wAwake40⟩
theorem kAwake259:KAwake259.Ok Try.prog:=CF.of2 noNG mixed (l:=[]) .nil 3000 (by kernel_rfl)
def KAwake260:CF:=⟨68,[.agg wAwake40],vF⟩
theorem kAwake260:KAwake260.Ok Try.prog:=CF.of2 noNG mixed (l:=[]) .nil 3000 (by kernel_rfl)
def KAwake261:CF:=⟨70,[lstV wAwake0 0 1 13,vI 35],.agg ⟨[vI 0,vI 0,vI 0,vI 10,vI 10,vI 0,vI 0,vI 0,vI 0,vI 0,vI 0,vI 0,vI 0]⟩⟩
theorem kAwake261:KAwake261.Ok Try.prog:=CF.of2 noNG mixed (l:=[]) .nil 3000 (by kernel_rfl)
def KAwake262:CF:=⟨116,[.agg ⟨[vJ 301,vJ 297,vI 0,vI 0,vJ 1429,vJ 1429]⟩],.agg ⟨[vI 1460,vI 1462]⟩⟩
theorem kAwake262:KAwake262.Ok Try.prog:=CF.of2 noNG mixed (l:=[]) .nil 3000 (by kernel_rfl)
def KAwake263:CF:=⟨112,[.agg ⟨[vJ 301,vJ 297,vI 0,vI 0,vJ 1429,vJ 1429]⟩,.func (.func 111) ⟨[]⟩ ⟨[]⟩,.agg ⟨[vI 0,vI 0]⟩],.agg ⟨[vI 0,vI 0,vI 0,vI 0,vI 0,vI 0]⟩⟩
theorem kAwake263:KAwake263.Ok Try.prog:=CF.of2 noNG mixed (l:=[]) .nil 3000 (by kernel_rfl)
def KAwake264:CF:=⟨99,[.agg wAwake4,.agg ⟨[vI 0,vI 0,vI 0,vI 10,vI 10,vI 0,vI 0,vI 0,vI 0,vI 0,vI 0,vI 0,vI 0]⟩,.agg wAwake40],.agg ⟨[vI 0,vI 0,vI 0,vI 0,vI 0,vI 0]⟩⟩
theorem kAwake264:KAwake264.Ok Try.prog:=CF.of2 noNG mixed (l:=[KAwake15,KAwake262,KAwake263]) (.cons kAwake15 (.cons kAwake262 (.cons kAwake263 .nil))) 3000 (by kernel_rfl)
def KAwake265:CF:=⟨69,[.agg wAwake4,.agg ⟨[vI 0,vI 0,vI 0,vI 10,vI 10,vI 0,vI 0,vI 0,vI 0,vI 0,vI 0,vI 0,vI 0]⟩,.agg wAwake40],.agg ⟨[vI 0,vI 0,vI 0,vI 0,vJ 97,vJ 97]⟩⟩
theorem kAwake265:KAwake265.Ok Try.prog:=CF.of2 noNG mixed (l:=[KAwake264,KAwake30]) (.cons kAwake264 (.cons kAwake30 .nil)) 3000 (by kernel_rfl)
def KAwake266:CF:=⟨119,[.agg wAwake40,.agg ⟨[vI 0,vI 0,vI 0,vI 0,vJ 97,vJ 97]⟩],.agg wAwake41⟩
theorem kAwake266:KAwake266.Ok Try.prog:=CF.of2 noNG mixed (l:=[]) .nil 3000 (by kernel_rfl)
def KAwake267:CF:=⟨68,[.agg wAwake41],vF⟩
theorem kAwake267:KAwake267.Ok Try.prog:=CF.of2 noNG mixed (l:=[]) .nil 3000 (by kernel_rfl)
def KAwake268:CF:=⟨70,[lstV wAwake0 0 1 13,vI 36],.agg ⟨[vI 0,vI 0,vI 0,vI 10,vI 10,vI 0,vI 0,vI 0,vI 0,vI 0,vI 0,vI 0,vI 0]⟩⟩
theorem kAwake268:KAwake268.Ok Try.prog:=CF.of2 noNG mixed (l:=[]) .nil 3000 (by kernel_rfl)
def KAwake269:CF:=⟨116,[.agg ⟨[vJ 301,vJ 297,vI 0,vI 0,vJ 1527,vJ 1527]⟩],.agg ⟨[vI 1556,vI 1558]⟩⟩
theorem kAwake269:KAwake269.Ok Try.prog:=CF.of2 noNG mixed (l:=[]) .nil 3000 (by kernel_rfl)
def KAwake270:CF:=⟨112,[.agg ⟨[vJ 301,vJ 297,vI 0,vI 0,vJ 1527,vJ 1527]⟩,.func (.func 111) ⟨[]⟩ ⟨[]⟩,.agg ⟨[vI 0,vI 0]⟩],.agg ⟨[vI 0,vI 0,vI 0,vI 0,vI 0,vI 0]⟩⟩
theorem kAwake270:KAwake270.Ok Try.prog:=CF.of2 noNG mixed (l:=[]) .nil 3000 (by kernel_rfl)
def KAwake271:CF:=⟨99,[.agg wAwake4,.agg ⟨[vI 0,vI 0,vI 0,vI 10,vI 10,vI 0,vI 0,vI 0,vI 0,vI 0,vI 0,vI 0,vI 0]⟩,.agg wAwake41],.agg ⟨[vI 0,vI 0,vI 0,vI 0,vI 0,vI 0]⟩⟩
theorem kAwake271:KAwake271.Ok Try.prog:=CF.of2 noNG mixed (l:=[KAwake269,KAwake270,KAwake15]) (.cons kAwake269 (.cons kAwake270 (.cons kAwake15 .nil))) 3000 (by kernel_rfl)
def KAwake272:CF:=⟨69,[.agg wAwake4,.agg ⟨[vI 0,vI 0,vI 0,vI 10,vI 10,vI 0,vI 0,vI 0,vI 0,vI 0,vI 0,vI 0,vI 0]⟩,.agg wAwake41],.agg ⟨[vI 0,vI 0,vI 0,vI 0,vJ 97,vJ 97]⟩⟩
theorem kAwake272:KAwake272.Ok Try.prog:=CF.of2 noNG mixed (l:=[KAwake30,KAwake271]) (.cons kAwake30 (.cons kAwake271 .nil)) 3000 (by kernel_rfl)
def KAwake273:CF:=⟨119,[.agg wAwake41,.agg ⟨[vI 0,vI 0,vI 0,vI 0,vJ 97,vJ 97]⟩],.agg wAwake42⟩
theorem kAwake273:KAwake273.Ok Try.prog:=CF.of2 noNG mixed (l:=[]) .nil 3000 (by kernel_rfl)
def KAwake274:CF:=⟨68,[.agg wAwake42],vF⟩
theorem kAwake274:KAwake274.Ok Try.prog:=CF.of2 noNG mixed (l:=[]) .nil 3000 (by kernel_rfl)
def KAwake275:CF:=⟨70,[lstV wAwake0 0 1 13,vI 37],.agg ⟨[vI 0,vI 0,vI 0,vI 10,vI 10,vI 0,vI 0,vI 0,vI 0,vI 0,vI 0,vI 0,vI 0]⟩⟩
theorem kAwake275:KAwake275.Ok Try.prog:=CF.of2 noNG mixed (l:=[]) .nil 3000 (by kernel_rfl)
def KAwake276:CF:=⟨116,[.agg ⟨[vJ 301,vJ 297,vI 0,vI 0,vJ 1625,vJ 1625]⟩],.agg ⟨[vI 1653,vI 1654]⟩⟩
theorem kAwake276:KAwake276.Ok Try.prog:=CF.of2 noNG mixed (l:=[]) .nil 3000 (by kernel_rfl)
def KAwake277:CF:=⟨112,[.agg ⟨[vJ 301,vJ 297,vI 0,vI 0,vJ 1625,vJ 1625]⟩,.func (.func 111) ⟨[]⟩ ⟨[]⟩,.agg ⟨[vI 0,vI 0]⟩],.agg ⟨[vI 0,vI 0,vI 0,vI 0,vI 0,vI 0]⟩⟩
theorem kAwake277:KAwake277.Ok Try.prog:=CF.of2 noNG mixed (l:=[]) .nil 3000 (by kernel_rfl)
def KAwake278:CF:=⟨99,[.agg wAwake4,.agg ⟨[vI 0,vI 0,vI 0,vI 10,vI 10,vI 0,vI 0,vI 0,vI 0,vI 0,vI 0,vI 0,vI 0]⟩,.agg wAwake42],.agg ⟨[vI 0,vI 0,vI 0,vI 0,vI 0,vI 0]⟩⟩
theorem kAwake278:KAwake278.Ok Try.prog:=CF.of2 noNG mixed (l:=[KAwake276,KAwake277,KAwake15]) (.cons kAwake276 (.cons kAwake277 (.cons kAwake15 .nil))) 3000 (by kernel_rfl)
def KAwake279:CF:=⟨69,[.agg wAwake4,.agg ⟨[vI 0,vI 0,vI 0,vI 10,vI 10,vI 0,vI 0,vI 0,vI 0,vI 0,vI 0,vI 0,vI 0]⟩,.agg wAwake42],.agg ⟨[vI 0,vI 0,vI 0,vI 0,vJ 97,vJ 97]⟩⟩
theorem kAwake279:KAwake279.Ok Try.prog:=CF.of2 noNG mixed (l:=[KAwake30,KAwake278]) (.cons kAwake30 (.cons kAwake278 .nil)) 3000 (by kernel_rfl)
def KAwake280:CF:=⟨119,[.agg wAwake42,.agg ⟨[vI 0,vI 0,vI 0,vI 0,vJ 97,vJ 97]⟩],.agg wAwake43⟩
theorem kAwake280:KAwake280.Ok Try.prog:=CF.of2 noNG mixed (l:=[]) .nil 3000 (by kernel_rfl)
def KAwake281:CF:=⟨68,[.agg wAwake43],vF⟩
theorem kAwake281:KAwake281.Ok Try.prog:=CF.of2 noNG mixed (l:=[]) .nil 3000 (by kernel_rfl)
def KAwake282:CF:=⟨70,[lstV wAwake0 0 1 13,vI 38],.agg ⟨[vI 0,vI 0,vI 0,vI 10,vI 10,vI 0,vI 0,vI 0,vI 0,vI 0,vI 0,vI 0,vI 0]⟩⟩
theorem kAwake282:KAwake282.Ok Try.prog:=CF.of2 noNG mixed (l:=[]) .nil 3000 (by kernel_rfl)
def KAwake283:CF:=⟨116,[.agg ⟨[vJ 301,vJ 297,vI 0,vI 0,vJ 1723,vJ 1723]⟩],.agg ⟨[vI 1749,vI 1751]⟩⟩
theorem kAwake283:KAwake283.Ok Try.prog:=CF.of2 noNG mixed (l:=[]) .nil 3000 (by kernel_rfl)
def KAwake284:CF:=⟨112,[.agg ⟨[vJ 301,vJ 297,vI 0,vI 0,vJ 1723,vJ 1723]⟩,.func (.func 111) ⟨[]⟩ ⟨[]⟩,.agg ⟨[vI 0,vI 0]⟩],.agg ⟨[vI 0,vI 0,vI 0,vI 0,vI 0,vI 0]⟩⟩
theorem kAwake284:KAwake284.Ok Try.prog:=CF.of2 noNG mixed (l:=[]) .nil 3000 (by kernel_rfl)
def KAwake285:CF:=⟨99,[.agg wAwake4,.agg ⟨[vI 0,vI 0,vI 0,vI 10,vI 10,vI 0,vI 0,vI 0,vI 0,vI 0,vI 0,vI 0,vI 0]⟩,.agg wAwake43],.agg ⟨[vI 0,vI 0,vI 0,vI 0,vI 0,vI 0]⟩⟩
theorem kAwake285:KAwake285.Ok Try.prog:=CF.of2 noNG mixed (l:=[KAwake283,KAwake284,KAwake15]) (.cons kAwake283 (.cons kAwake284 (.cons kAwake15 .nil))) 3000 (by kernel_rfl)
def KAwake286:CF:=⟨69,[.agg wAwake4,.agg ⟨[vI 0,vI 0,vI 0,vI 10,vI 10,vI 0,vI 0,vI 0,vI 0,vI 0,vI 0,vI 0,vI 0]⟩,.agg wAwake43],.agg ⟨[vI 0,vI 0,vI 0,vI 0,vJ 97,vJ 97]⟩⟩
theorem kAwake286:KAwake286.Ok Try.prog:=CF.of2 noNG mixed (l:=[KAwake285,KAwake30]) (.cons kAwake285 (.cons kAwake30 .nil)) 3000 (by kernel_rfl)
def KAwake287:CF:=⟨119,[.agg wAwake43,.agg ⟨[vI 0,vI 0,vI 0,vI 0,vJ 97,vJ 97]⟩],.agg wAwake44⟩
theorem kAwake287:KAwake287.Ok Try.prog:=CF.of2 noNG mixed (l:=[]) .nil 3000 (by kernel_rfl)
def KAwake288:CF:=⟨68,[.agg wAwake44],vF⟩
theorem kAwake288:KAwake288.Ok Try.prog:=CF.of2 noNG mixed (l:=[]) .nil 3000 (by kernel_rfl)
def KAwake289:CF:=⟨70,[lstV wAwake0 0 1 13,vI 39],.agg ⟨[vI 0,vI 0,vI 0,vI 10,vI 10,vI 0,vI 0,vI 0,vI 0,vI 0,vI 0,vI 0,vI 0]⟩⟩
theorem kAwake289:KAwake289.Ok Try.prog:=CF.of2 noNG mixed (l:=[]) .nil 3000 (by kernel_rfl)
def KAwake290:CF:=⟨116,[.agg ⟨[vJ 301,vJ 297,vI 0,vI 0,vJ 1821,vJ 1821]⟩],.agg ⟨[vI 1846,vI 1847]⟩⟩
theorem kAwake290:KAwake290.Ok Try.prog:=CF.of2 noNG mixed (l:=[]) .nil 3000 (by kernel_rfl)
def KAwake291:CF:=⟨112,[.agg ⟨[vJ 301,vJ 297,vI 0,vI 0,vJ 1821,vJ 1821]⟩,.func (.func 111) ⟨[]⟩ ⟨[]⟩,.agg ⟨[vI 0,vI 0]⟩],.agg ⟨[vI 0,vI 0,vI 0,vI 0,vI 0,vI 0]⟩⟩
theorem kAwake291:KAwake291.Ok Try.prog:=CF.of2 noNG mixed (l:=[]) .nil 3000 (by kernel_rfl)
def KAwake292:CF:=⟨99,[.agg wAwake4,.agg ⟨[vI 0,vI 0,vI 0,vI 10,vI 10,vI 0,vI 0,vI 0,vI 0,vI 0,vI 0,vI 0,vI 0]⟩,.agg wAwake44],.agg ⟨[vI 0,vI 0,vI 0,vI 0,vI 0,vI 0]⟩⟩
theorem kAwake292:KAwake292.Ok Try.prog:=CF.of2 noNG mixed (l:=[KAwake290,KAwake291,KAwake15]) (.cons kAwake290 (.cons kAwake291 (.cons kAwake15 .nil))) 3000 (by kernel_rfl)
def KAwake293:CF:=⟨69,[.agg wAwake4,.agg ⟨[vI 0,vI 0,vI 0,vI 10,vI 10,vI 0,vI 0,vI 0,vI 0,vI 0,vI 0,vI 0,vI 0]⟩,.agg wAwake44],.agg ⟨[vI 0,vI 0,vI 0,vI 0,vJ 97,vJ 97]⟩⟩
theorem kAwake293:KAwake293.Ok Try.prog:=CF.of2 noNG mixed (l:=[KAwake292,KAwake30]) (.cons kAwake292 (.cons kAwake30 .nil)) 3000 (by kernel_rfl)
def KAwake294:CF:=⟨119,[.agg wAwake44,.agg ⟨[vI 0,vI 0,vI 0,vI 0,vJ 97,vJ 97]⟩],.agg wAwake45⟩
theorem kAwake294:KAwake294.Ok Try.prog:=CF.of2 noNG mixed (l:=[]) .nil 3000 (by kernel_rfl)
def KAwake295:CF:=⟨68,[.agg wAwake45],vF⟩
theorem kAwake295:KAwake295.Ok Try.prog:=CF.of2 noNG mixed (l:=[]) .nil 3000 (by kernel_rfl)
end
end Go.Proofs.Ytggaomgopenkfaa
