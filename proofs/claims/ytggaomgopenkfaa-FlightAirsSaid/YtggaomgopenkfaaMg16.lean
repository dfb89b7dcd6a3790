/- Part 16 of the texts below the claim. Conditions: none. -/
import Derived.Test.YtggaomgopenkfaaMg11
import Derived.Test.YtggaomgopenkfaaMg12
import Derived.Test.YtggaomgopenkfaaMg15
import Derived.Test.YtggaomgopenkfaaMg13
import Derived.Test.YtggaomgopenkfaaMg14
set_option linter.unusedVariables false
set_option linter.unusedSimpArgs false
namespace Go.Proofs.Ytggaomgopenkfaa
open Go.Gi Go.RowKit
noncomputable section
set_option maxRecDepth 100000
set_option maxHeartbeats 4000000
def KAwake263:CF:=⟨112,[.agg ⟨[vJ 301,vJ 297,vI 0,vI 0,vJ 1429,vJ 1429]⟩,.func (.func 111) ⟨[]⟩ ⟨[]⟩,.agg ⟨[vI 0,vI 0]⟩],.agg ⟨[vI 0,vI 0,vI 0,vI 0,vI 0,vI 0]⟩⟩
theorem kAwake263:KAwake263.Ok Try.prog:=CF.of2 noNG mixed (l:=[]) .nil 3000 (by kernel_rfl)
def KAwake264:CF:=⟨99,[.agg wAwake4,.agg ⟨[vI 0,vI 0,vI 0,vI 10,vI 10,vI 0,vI 0,vI 0,vI 0,vI 0,vI 0,vI 0,vI 0]⟩,.agg wAwake40],.agg ⟨[vI 0,vI 0,vI 0,vI 0,vI 0,vI 0]⟩⟩
theorem kAwake264:KAwake264.Ok Try.prog:=CF.of2 noNG mixed (l:=[KAwake15,KAwake262,KAwake263]) (.cons kAwake15 (.cons kAwake262 (.cons kAwake263 .nil))) 3000 (by kernel_rfl)
def KAwake265:CF:=⟨69,[.agg wAwake4,.agg ⟨[vI 0,vI 0,vI 0,vI 10,vI 10,vI 0,vI 0,vI 0,vI 0,vI 0,vI 0,vI 0,vI 0]⟩,.agg wAwake40],.agg ⟨[vI 0,vI 0,vI 0,vI 0,vJ 97,vJ 97]⟩⟩
theorem kAwake265:KAwake265.Ok Try.prog:=CF.of2 noNG mixed (l:=[KAwake264,KAwake30]) (.cons kAwake264 (.cons kAwake30 .nil)) 3000 (by kernel_rfl)
def KAwake266:CF:=⟨119,[.agg wAwake40,.agg ⟨[vI 0,vI 0,vI 0,vI 0,vJ 97,vJ 97]⟩],.agg wAwake41⟩
theorem kAwake266:KAwake266.Ok Try.prog:=CF.of2 noNG mixed (l:=[]) .nil 3000 (by kernel_rfl)
def KAwake267:CF:=⟨68,[.agg wAwake41],vF⟩
theorem kAwake267:KAwake267.Ok Try.prog:=CF.of2 noNG mixed (l:=[]) .nil 3000 (by kernel_rfl)
def KAwake268:CF:=⟨70,[lstV wAwake0 0 1 13,vI 36],.agg ⟨[vI 0,vI 0,vI 0,vI 10,vI 10,vI 0,vI 0,vI 0,vI 0,vI 0,vI 0,vI 0,vI 0]⟩⟩
theorem kAwake268:KAwake268.Ok Try.prog:=CF.of2 noNG mixed (l:=[]) .nil 3000 (by kernel_rfl)
def KAwake269:CF:=⟨116,[.agg ⟨[vJ 301,vJ 297,vI 0,vI 0,vJ 1527,vJ 1527]⟩],.agg ⟨[vI 1556,vI 1558]⟩⟩
theorem kAwake269:KAwake269.Ok Try.prog:=CF.of2 noNG mixed (l:=[]) .nil 3000 (by kernel_rfl)
def KAwake270:CF:=⟨112,[.agg ⟨[vJ 301,vJ 297,vI 0,vI 0,vJ 1527,vJ 1527]⟩,.func (.func 111) ⟨[]⟩ ⟨[]⟩,.agg ⟨[vI 0,vI 0]⟩],.agg ⟨[vI 0,vI 0,vI 0,vI 0,vI 0,vI 0]⟩⟩
theorem kAwake270:KAwake270.Ok Try.prog:=CF.of2 noNG mixed (l:=[]) .nil 3000 (by kernel_rfl)
def KAwake271:CF:=⟨99,[.agg wAwake4,.agg ⟨[vI 0,vI 0,vI 0,vI 10,vI 10,vI 0,vI 0,vI 0,vI 0,vI 0,vI 0,vI 0,vI 0]⟩,.agg wAwake41],.agg ⟨[vI 0,vI 0,vI 0,vI 0,vI 0,vI 0]⟩⟩
theorem kAwake271:KAwake271.Ok Try.prog:=CF.of2 noNG mixed (l:=[KAwake269,KAwake270,KAwake15]) (.cons kAwake269 (.cons kAwake270 (.cons kAwake15 .nil))) 3000 (by kernel_rfl)
def KAwake272:CF:=⟨69,[.agg wAwake4,.agg ⟨[vI 0,vI 0,vI 0,vI 10,vI 10,vI 0,vI 0,vI 0,vI 0,vI 0,vI 0,vI 0,vI 0]⟩,.agg wAwake41],.agg ⟨[vI 0,vI 0,vI 0,vI 0,vJ 97,vJ 97]⟩⟩
theorem kAwake272:KAwake272.Ok Try.prog:=CF.of2 noNG mixed (l:=[KAwake30,KAwake271]) (.cons kAwake30 (.cons kAwake271 .nil)) 3000 (by kernel_rfl)
def KAwake273:CF:=⟨119,[.agg wAwake41,.agg ⟨[vI 0,vI 0,vI 0,vI 0,vJ 97,vJ 97]⟩],.agg wAwake42⟩
theorem kAwake273:KAwake273.Ok Try.prog:=CF.of2 noNG mixed (l:=[]) .nil 3000 (by kernel_rfl)
def KAwake274:CF:=⟨68,[.agg wAwake42],vF⟩
theorem kAwake274:KAwake274.Ok Try.prog:=CF.of2 noNG mixed (l:=[]) .nil 3000 (by kernel_rfl)
def KAwake275:CF:=⟨70,[lstV wAwake0 0 1 13,vI 37],.agg ⟨[vI 0,vI 0,vI 0,vI 10,vI 10,vI 0,vI 0,vI 0,vI 0,vI 0,vI 0,vI 0,vI 0]⟩⟩
theorem kAwake275:KAwake275.Ok Try.prog:=CF.of2 noNG mixed (l:=[]) .nil 3000 (by kernel_rfl)
def KAwake276:CF:=⟨116,[.agg ⟨[vJ 301,vJ 297,vI 0,vI 0,vJ 1625,vJ 1625]⟩],.agg ⟨[vI 1653,vI 1654]⟩⟩
theorem kAwake276:KAwake276.Ok Try.prog:=CF.of2 noNG mixed (l:=[]) .nil 3000 (by kernel_rfl)
def KAwake277:CF:=⟨112,[.agg ⟨[vJ 301,vJ 297,vI 0,vI 0,vJ 1625,vJ 1625]⟩,.func (.func 111) ⟨[]⟩ ⟨[]⟩,.agg ⟨[vI 0,vI 0]⟩],.agg ⟨[vI 0,vI 0,vI 0,vI 0,vI 0,vI 0]⟩⟩
theorem kAwake277:KAwake277.Ok Try.prog:=CF.of2 noNG mixed (l:=[]) .nil 3000 (by kernel_rfl)
def KAwake278:CF:=⟨99,[.agg wAwake4,.agg ⟨[vI 0,vI 0,vI 0,vI 10,vI 10,vI 0,vI 0,vI 0,vI 0,vI 0,vI 0,vI 0,vI 0]⟩,.agg wAwake42],.agg ⟨[vI 0,vI 0,vI 0,vI 0,vI 0,vI 0]⟩⟩
theorem kAwake278:KAwake278.Ok Try.prog:=CF.of2 noNG mixed (l:=[KAwake276,KAwake277,KAwake15]) (.cons kAwake276 (.cons kAwake277 (.cons kAwake15 .nil))) 3000 (by kernel_rfl)
def KAwake279:CF:=⟨69,[.agg wAwake4,.agg ⟨[vI 0,vI 0,vI 0,vI 10,vI 10,vI 0,vI 0,vI 0,vI 0,vI 0,vI 0,vI 0,vI 0]⟩,.agg wAwake42],.agg ⟨[vI 0,vI 0,vI 0,vI 0,vJ 97,vJ 97]⟩⟩
theorem kAwake279:KAwake279.Ok Try.prog:=CF.of2 noNG mixed (l:=[KAwake30,KAwake278]) (.cons kAwake30 (.cons kAwake278 .nil)) 3000 (by kernel_rfl)
def KAwake280:CF:=⟨119,[.agg wAwake42,.agg ⟨[vI 0,vI 0,vI 0,vI 0,vJ 97,vJ 97]⟩],.agg wAwake43⟩
theorem kAwake280:KAwake280.Ok Try.prog:=CF.of2 noNG mixed (l:=[]) .nil 3000 (by kernel_rfl)
def KAwake281:CF:=⟨68,[.agg wAwake43],vF⟩
theorem kAwake281:KAwake281.Ok Try.prog:=CF.of2 noNG mixed (l:=[]) .nil 3000 (by kernel_rfl)
def KAwake282:CF:=⟨70,[lstV wAwake0 0 1 13,vI 38],.agg ⟨[vI 0,vI 0,vI 0,vI 10,vI 10,vI 0,vI 0,vI 0,vI 0,vI 0,vI 0,vI 0,vI 0]⟩⟩
theorem kAwake282:KAwake282.Ok Try.prog:=CF.of2 noNG mixed (l:=[]) .nil 3000 (by kernel_rfl)
def KAwake283:CF:=⟨116,[.agg ⟨[vJ 301,vJ 297,vI 0,vI 0,vJ 1723,vJ 1723]⟩],.agg ⟨[vI 1749,vI 1751]⟩⟩
theorem kAwake283:KAwake283.Ok Try.prog:=CF.of2 noNG mixed (l:=[]) .nil 3000 (by kernel_rfl)
def KAwake284:CF:=⟨112,[.agg ⟨[vJ 301,vJ 297,vI 0,vI 0,vJ 1723,vJ 1723]⟩,.func (.func 111) ⟨[]⟩ ⟨[]⟩,.agg ⟨[vI 0,vI 0]⟩],.agg ⟨[vI 0,vI 0,vI 0,vI 0,vI 0,vI 0]⟩⟩
theorem kAwake284:KAwake284.Ok Try.prog:=CF.of2 noNG mixed (l:=[]) .nil 3000 (by kernel_rfl)
def KAwake285:CF:=⟨99,[.agg wAwake4,.agg ⟨[vI 0,vI 0,vI 0,vI 10,vI 10,vI 0,vI 0,vI 0,vI 0,vI 0,vI 0,vI 0,vI 0]⟩,.agg wAwake43],.agg ⟨[vI 0,vI 0,vI 0,vI 0,vI 0,vI 0]⟩⟩
theorem kAwake285:KAwake285.Ok Try.prog:=CF.of2 noNG mixed (l:=[KAwake283,KAwake284,KAwake15]) (.cons kAwake283 (.cons kAwake284 (.cons kAwake15 .nil))) 3000 (by kernel_rfl)
def KAwake286:CF:=⟨69,[.agg wAwake4,.agg ⟨[vI 0,vI 0,vI 0,vI 10,vI 10,vI 0,vI 0,vI 0,vI 0,vI 0,vI 0,vI 0,vI 0]⟩,.agg wAwake43],.agg ⟨[vI 0,vI 0,vI 0,vI 0,vJ 97,vJ 97]⟩⟩
theorem kAwake286:KAwake286.Ok Try.prog:=CF.of2 noNG mixed (l:=[KAwake285,KAwake30]) (.cons kAwake285 (.cons kAwake30 .nil)) 3000 (by kernel_rfl)
def KAwake287:CF:=⟨119,[.agg wAwake43,.agg ⟨[vI 0,vI 0,vI 0,vI 0,vJ 97,vJ 97]⟩],.agg wAwake44⟩
theorem kAwake287:KAwake287.Ok Try.prog:=CF.of2 noNG mixed (l:=[]) .nil 3000 (by kernel_rfl)
def KAwake288:CF:=⟨68,[.agg wAwake44],vF⟩
theorem kAwake288:KAwake288.Ok Try.prog:=CF.of2 noNG mixed (l:=[]) .nil 3000 (by kernel_rfl)
def KAwake289:CF:=⟨70,[lstV wAwake0 0 1 13,vI 39],.agg ⟨[vI 0,vI 0,vI 0,vI 10,vI 10,vI 0,vI 0,vI 0,vI 0,vI 0,vI 0,vI 0,vI 0]⟩⟩
theorem kAwake289:KAwake289.Ok Try.prog:=CF.of2 noNG mixed (l:=[]) .nil 3000 (by kernel_rfl)
def KAwake290:CF:=⟨116,[.agg ⟨[vJ 301,vJ 297,vI 0,vI 0,vJ 1821,vJ 1821]⟩],.agg ⟨[vI 1846,vI 1847]⟩⟩
theorem kAwake290:KAwake290.Ok Try.prog:=CF.of2 noNG mixed (l:=[]) .nil 3000 (by kernel_rfl)
def KAwake291:CF:=⟨112,[.agg ⟨[vJ 301,vJ 297,vI 0,vI 0,vJ 1821,vJ 1821]⟩,.func (.func 111) ⟨[]⟩ ⟨[]⟩,.agg ⟨[vI 0,vI 0]⟩],.agg ⟨[vI 0,vI 0,vI 0,vI 0,vI 0,vI 0]⟩⟩
theorem kAwake291:KAwake291.Ok Try.prog:=CF.of2 noNG mixed (l:=[]) .nil 3000 (by kernel_rfl)
def KAwake292:CF:=⟨99,[.agg wAwake4,.agg ⟨[vI 0,vI 0,vI 0,vI 10,vI 10,vI 0,vI 0,vI 0,vI 0,vI 0,vI 0,vI 0,vI 0]⟩,.agg wAwake44],.agg ⟨[vI 0,vI 0,vI 0,vI 0,vI 0,vI 0]⟩⟩
theorem kAwake292:KAwake292.Ok Try.prog:=CF.of2 noNG mixed (l:=[KAwake290,KAwake291,KAwake15]) (.cons kAwake290 (.cons kAwake291 (.cons kAwake15 .nil))) 3000 (by kernel_rfl)
def KAwake293:CF:=⟨69,[.agg wAwake4,.agg ⟨[vI 0,vI 0,vI 0,vI 10,vI 10,vI 0,vI 0,vI 0,vI 0,vI 0,vI 0,vI 0,vI 0]⟩,.agg wAwake44],.agg ⟨[vI 0,vI 0,vI 0,vI 0,vJ 97,vJ 97]⟩⟩
theorem kAwake293:KAwake293.Ok Try.prog:=CF.of2 noNG mixed (l:=[KAwake292,KAwake30]) (.cons kAwake292 (.cons kAwake30 .nil)) 3000 (by kernel_rfl)
def KAwake294:CF:=⟨119,[.agg wAwake44,.agg ⟨[vI 0,vI 0,vI 0,vI 0,vJ 97,vJ 97]⟩],.agg wAwake45⟩
theorem kAwake294:KAwake294.Ok Try.prog:=CF.of2 noNG mixed (l:=[]) .nil 3000 (by kernel_rfl)
def KAwake295:CF:=⟨68,[.agg wAwake45],vF⟩
theorem kAwake295:KAwake295.Ok Try.prog:=CF.of2 noNG mixed (l:=[]) .nil 3000 (by kernel_rfl)
def KAwake296:CF:=⟨77,[.agg wAwake3,vI 0],.tuple ⟨[.agg ⟨[vI 0,vJ 78,vI 79,vI 0,vI 0,vI 40,vI 40]⟩,vI 0]⟩⟩
theorem kAwake296:KAwake296.Ok Try.prog:=CF.of2 noNG mixed (l:=[KAwake7,KAwake8,KAwake9,KAwake17,KAwake18,KAwake19,KAwake20,KAwake24,KAwake25,KAwake26,KAwake27,KAwake34,KAwake35,KAwake36,KAwake37,KAwake41,KAwake42,KAwake43,KAwake44,KAwake48,KAwake49,KAwake50,KAwake51,KAwake55,KAwake56,KAwake57,KAwake58,KAwake62,KAwake63,KAwake64,KAwake65,KAwake69,KAwake70,KAwake71,KAwake72,KAwake76,KAwake77,KAwake78,KAwake79,KAwake83,KAwake84,KAwake85,KAwake86,KAwake90,KAwake91,KAwake92,KAwake93,KAwake97,KAwake98,KAwake99,KAwake100,KAwake104,KAwake105,KAwake106,KAwake107,KAwake111,KAwake112,KAwake113,KAwake114,KAwake118,KAwake119,KAwake120,KAwake121,KAwake125,KAwake126,KAwake127,KAwake128,KAwake132,KAwake133,KAwake134,KAwake135,KAwake139,KAwake140,KAwake141,KAwake142,KAwake146,KAwake147,KAwake148,KAwake149,KAwake153,KAwake154,KAwake155,KAwake156,KAwake160,KAwake161,KAwake162,KAwake163,KAwake167,KAwake168,KAwake169,KAwake170,KAwake174,KAwake175,KAwake176,KAwake177,KAwake181,KAwake182,KAwake183,KAwake184,KAwake188,KAwake189,KAwake190,KAwake191,KAwake195,KAwake196,KAwake197,KAwake198,KAwake202,KAwake203,KAwake204,KAwake205,KAwake209,KAwake210,KAwake211,KAwake212,KAwake216,KAwake217,KAwake218,KAwake219,KAwake223,KAwake224,KAwake225,KAwake226,KAwake230,KAwake231,KAwake232,KAwake233,KAwake237,KAwake238,KAwake239,KAwake240,KAwake244,KAwake245,KAwake246,KAwake247,KAwake251,KAwake252,KAwake253,KAwake254,KAwake258,KAwake259,KAwake260,KAwake261,KAwake265,KAwake266,KAwake267,KAwake268,KAwake272,KAwake273,KAwake274,KAwake275,KAwake279,KAwake280,KAwake281,KAwake282,KAwake286,KAwake287,KAwake288,KAwake289,KAwake293,KAwake294,KAwake295]) (.cons kAwake7 (.cons kAwake8 (.cons kAwake9 (.cons kAwake17 (.cons kAwake18 (.cons kAwake19 (.cons kAwake20 (.cons kAwake24 (.cons kAwake25 (.cons kAwake26 (.cons kAwake27 (.cons kAwake34 (.cons kAwake35 (.cons kAwake36 (.cons kAwake37 (.cons kAwake41 (.cons kAwake42 (.cons kAwake43 (.cons kAwake44 (.cons kAwake48 (.cons kAwake49 (.cons kAwake50 (.cons kAwake51 (.cons kAwake55 (.cons kAwake56 (.cons kAwake57 (.cons kAwake58 (.cons kAwake62 (.cons kAwake63 (.cons kAwake64 (.cons kAwake65 (.cons kAwake69 (.cons kAwake70 (.cons kAwake71 (.cons kAwake72 (.cons kAwake76 (.cons kAwake77 (.cons kAwake78 (.cons kAwake79 (.cons kAwake83 (.cons kAwake84 (.cons kAwake85 (.cons kAwake86 (.cons kAwake90 (.cons kAwake91 (.cons kAwake92 (.cons kAwake93 (.cons kAwake97 (.cons kAwake98 (.cons kAwake99 (.cons kAwake100 (.cons kAwake104 (.cons kAwake105 (.cons kAwake106 (.cons kAwake107 (.cons kAwake111 (.cons kAwake112 (.cons kAwake113 (.cons kAwake114 (.cons kAwake118 (.cons kAwake119 (.cons kAwake120 (.cons kAwake121 (.cons kAwake125 (.cons kAwake126 (.cons kAwake127 (.cons kAwake128 (.cons kAwake132 (.cons kAwake133 (.cons kAwake134 (.cons kAwake135 (.cons kAwake139 (.cons kAwake140 (.cons kAwake141 (.cons kAwake142 (.cons kAwake146 (.cons kAwake147 (.cons kAwake148 (.cons kAwake149 (.cons kAwake153 (.cons kAwake154 (.cons kAwake155 (.cons kAwake156 (.cons kAwake160 (.cons kAwake161 (.cons kAwake162 (.cons kAwake163 (.cons kAwake167 (.cons kAwake168 (.cons kAwake169 (.cons kAwake170 (.cons kAwake174 (.cons kAwake175 (.cons kAwake176 (.cons kAwake177 (.cons kAwake181 (.cons kAwake182 (.cons kAwake183 (.cons kAwake184 (.cons kAwake188 (.cons kAwake189 (.cons kAwake190 (.cons kAwake191 (.cons kAwake195 (.cons kAwake196 (.cons kAwake197 (.cons kAwake198 (.cons kAwake202 (.cons kAwake203 (.cons kAwake204 (.cons kAwake205 (.cons kAwake209 (.cons kAwake210 (.cons kAwake211 (.cons kAwake212 (.cons kAwake216 (.cons kAwake217 (.cons kAwake218 (.cons kAwake219 (.cons kAwake223 (.cons kAwake224 (.cons kAwake225 (.cons kAwake226 (.cons kAwake230 (.cons kAwake231 (.cons kAwake232 (.cons kAwake233 (.cons kAwake237 (.cons kAwake238 (.cons kAwake239 (.cons kAwake240 (.cons kAwake244 (.cons kAwake245 (.cons kAwake246 (.cons kAwake247 (.cons kAwake251 (.cons kAwake252 (.cons kAwake253 (.cons kAwake254 (.cons kAwake258 (.cons kAwake259 (.cons kAwake260 (.cons kAwake261 (.cons kAwake265 (.cons kAwake266 (.cons kAwake267 (.cons kAwake268 (.cons kAwake272 (.cons kAwake273 (.cons kAwake274 (.cons kAwake275 (.cons kAwake279 (.cons kAwake280 (.cons kAwake281 (.cons kAwake282 (.cons kAwake286 (.cons kAwake287 (.cons kAwake288 (.cons kAwake289 (.cons kAwake293 (.cons kAwake294 (.cons kAwake295 .nil)))))))))))))))))))))))))))))))))))))))))))))))))))))))))))))))))))))))))))))))))))))))))))))))))))))))))))))))))))))))))))))))))))))))))))))))))))))))))))))))))) 3000 (by kernel_rfl)
def KAwake297:CF:=⟨33,[.agg wAwake1,.agg ⟨[vI 0,vI 0,vI 10000]⟩,lstV ⟨[vI 0,vI 100000,vI 300,vI 300,vI 0,vI 0]⟩ 0 1 6],.tuple ⟨[lstV ⟨[vI 0,vJ 78,vI 79,vI 0,vI 0,vI 40,vI 40]⟩ 0 1 7,vI 0]⟩⟩
theorem kAwake297:KAwake297.Ok Try.prog:=CF.of2 noNG mixed (l:=[KAwake296,KAwake5]) (.cons kAwake296 (.cons kAwake5 .nil)) 3000 (by kernel_rfl)
def KAwake298:CF:=⟨31,[],.agg wAwake47⟩
theorem kAwake298:KAwake298.Ok Try.prog:=CF.of2 noNG mixed (l:=[]) .nil 3000 (by kernel_rfl)
end
end Go.Proofs.Ytggaomgopenkfaa
