/- Part 11 of the texts below the claim. Conditions: none. -/
import Derived.Test.YtmppkpdoonljpaaMg10
import Derived.Test.YtmppkpdoonljpaaMg7
set_option linter.unusedVariables false
set_option linter.unusedSimpArgs false
namespace Go.Proofs.Ytmppkpdoonljpaa
open Go.Gi Go.RowKit
noncomputable section
set_option maxRecDepth 100000
set_option maxHeartbeats 4000000
def KAwake0:CF:=⟨47,[],.agg ⟨[vI 100,vI 1000,vI 50,lstV wAwake0 0 3 6,lstV wAwake1 0 4 5]⟩⟩
theorem kAwake0:KAwake0.Ok Try.prog:=CF.of2 noNG mixed (l:=[]) .nil 3000 (by kernel_rfl)
def KAwake1:CF:=⟨96,[.string ⟨⟨[101,97,115,116]⟩⟩],vT⟩
theorem kAwake1:KAwake1.Ok Try.prog:=CF.of2 noNG mixed (l:=[]) .nil 3000 (by kernel_rfl)
def KAwake2:CF:=⟨59,[.agg ⟨[.string ⟨⟨[101,97,115,116]⟩⟩,vI 3000000,vI 0,vI 2000,vI 500,vI 5]⟩,lstV wAwake0 0 0 6],vI 0⟩
theorem kAwake2:KAwake2.Ok Try.prog:=CF.of2 noNG mixed (l:=[KAwake1]) (.cons kAwake1 .nil) 3000 (by kernel_rfl)
def KAwake3:CF:=⟨96,[.string ⟨⟨[119,101,115,116]⟩⟩],vT⟩
theorem kAwake3:KAwake3.Ok Try.prog:=CF.of2 noNG mixed (l:=[]) .nil 3000 (by kernel_rfl)
def KAwake4:CF:=⟨59,[.agg ⟨[.string ⟨⟨[119,101,115,116]⟩⟩,vJ 499999,vI 0,vI 3000,vI 1000,vI 0]⟩,lstV wAwake0 0 1 6],vI 0⟩
theorem kAwake4:KAwake4.Ok Try.prog:=CF.of2 noNG mixed (l:=[KAwake3]) (.cons kAwake3 .nil) 3000 (by kernel_rfl)
def KAwake5:CF:=⟨96,[.string ⟨⟨[103,112,115]⟩⟩],vT⟩
theorem kAwake5:KAwake5.Ok Try.prog:=CF.of2 noNG mixed (l:=[]) .nil 3000 (by kernel_rfl)
def KAwake6:CF:=⟨59,[.agg ⟨[.string ⟨⟨[103,112,115]⟩⟩,vI 0,vI 0,vI 800,vI 0,vI 20]⟩,lstV wAwake0 0 2 6],vI 0⟩
theorem kAwake6:KAwake6.Ok Try.prog:=CF.of2 noNG mixed (l:=[KAwake5]) (.cons kAwake5 .nil) 3000 (by kernel_rfl)
def KAwake7:CF:=⟨60,[.agg ⟨[vI 100,vI 1000,vI 50,lstV wAwake0 0 3 6,lstV wAwake1 0 4 5]⟩,vI 0],vI 0⟩
theorem kAwake7:KAwake7.Ok Try.prog:=CF.of2 noNG mixed (l:=[]) .nil 3000 (by kernel_rfl)
def KAwake8:CF:=⟨60,[.agg ⟨[vI 100,vI 1000,vI 50,lstV wAwake0 0 3 6,lstV wAwake1 0 4 5]⟩,vI 1],vI 0⟩
theorem kAwake8:KAwake8.Ok Try.prog:=CF.of2 noNG mixed (l:=[]) .nil 3000 (by kernel_rfl)
def KAwake9:CF:=⟨60,[.agg ⟨[vI 100,vI 1000,vI 50,lstV wAwake0 0 3 6,lstV wAwake1 0 4 5]⟩,vI 2],vI 0⟩
theorem kAwake9:KAwake9.Ok Try.prog:=CF.of2 noNG mixed (l:=[]) .nil 3000 (by kernel_rfl)
def KAwake10:CF:=⟨60,[.agg ⟨[vI 100,vI 1000,vI 50,lstV wAwake0 0 3 6,lstV wAwake1 0 4 5]⟩,vI 3],vI 0⟩
theorem kAwake10:KAwake10.Ok Try.prog:=CF.of2 noNG mixed (l:=[]) .nil 3000 (by kernel_rfl)
def KAwake11:CF:=⟨20,[.agg ⟨[vI 100,vI 1000,vI 50,lstV wAwake0 0 3 6,lstV wAwake1 0 4 5]⟩],.tuple ⟨[vI 0,vI 0,vI 0]⟩⟩
theorem kAwake11:KAwake11.Ok Try.prog:=CF.of2 noNG mixed (l:=[KAwake2,KAwake4,KAwake6,KAwake7,KAwake8,KAwake9,KAwake10]) (.cons kAwake2 (.cons kAwake4 (.cons kAwake6 (.cons kAwake7 (.cons kAwake8 (.cons kAwake9 (.cons kAwake10 .nil))))))) 3000 (by kernel_rfl)
def KAwake12:CF:=⟨69,[.agg ⟨[vI 100,vI 1000,vI 50,lstV wAwake0 0 3 6,lstV wAwake1 0 4 5]⟩,vI 150],.func (.func 102) ⟨[]⟩ wAwake2⟩
theorem kAwake12:KAwake12.Ok Try.prog:=CF.of2 noNG mixed (l:=[]) .nil 3000 (by kernel_rfl)
def KAwake13:CF:=⟨66,[.agg ⟨[vI 100,vI 1000,vI 50,lstV wAwake0 0 3 6,lstV wAwake1 0 4 5]⟩,vI 0],vI 3500⟩
theorem kAwake13:KAwake13.Ok Try.prog:=CF.of2 noNG mixed (l:=[]) .nil 3000 (by kernel_rfl)
def KAwake14:CF:=⟨66,[.agg ⟨[vI 100,vI 1000,vI 50,lstV wAwake0 0 3 6,lstV wAwake1 0 4 5]⟩,vI 1],vI 4000⟩
theorem kAwake14:KAwake14.Ok Try.prog:=CF.of2 noNG mixed (l:=[]) .nil 3000 (by kernel_rfl)
def KAwake15:CF:=⟨66,[.agg ⟨[vI 100,vI 1000,vI 50,lstV wAwake0 0 3 6,lstV wAwake1 0 4 5]⟩,vI 2],vI 800⟩
theorem kAwake15:KAwake15.Ok Try.prog:=CF.of2 noNG mixed (l:=[]) .nil 3000 (by kernel_rfl)
def KAwake16:CF:=⟨66,[.agg ⟨[vI 100,vI 1000,vI 50,lstV wAwake0 0 3 6,lstV wAwake1 0 4 5]⟩,vI 3],vI 800⟩
theorem kAwake16:KAwake16.Ok Try.prog:=CF.of2 noNG mixed (l:=[]) .nil 3000 (by kernel_rfl)
def KAwake17:HF:=⟨73,[.agg ⟨[vI 100,vI 1000,vI 50,lstV wAwake0 0 3 6,lstV wAwake1 0 4 5]⟩,vI 120,vI 150],⟨[oAwake0,oAwake1],0,[]⟩,.tuple ⟨[.agg wAwake3,vI 0]⟩,⟨[oAwake0,oAwake1,oAwake0,.cells wAwake3 false,.map [],.cells wAwake3 false,.dead,.dead,oAwake2,oAwake3,.dead,oAwake4,oAwake5,.dead,oAwake6,oAwake7,.dead,oAwake8,oAwake9,.cells wAwake4 false],0,[]⟩⟩
theorem kAwake17:KAwake17.Ok Try.prog:=HF.of noNG mixed (hs:=[]) .nil (l:=[KAwake11,KAwake12,KAwake13,KAwake14,KAwake15,KAwake16]) (.cons kAwake11 (.cons kAwake12 (.cons kAwake13 (.cons kAwake14 (.cons kAwake15 (.cons kAwake16 .nil)))))) 3000 (by kernel_rfl)
def KAwake18:CF:=⟨80,[vI 3],.int .u64 (.ofNat 8)⟩
theorem kAwake18:KAwake18.Ok Try.prog:=CF.of2 noNG mixed (l:=[]) .nil 3000 (by kernel_rfl)
def KAwake19:CF:=⟨71,[.agg ⟨[vI 100,vI 1000,vI 50,lstV wAwake0 0 3 6,lstV wAwake1 0 4 5]⟩,vI 20],vI 10500⟩
theorem kAwake19:KAwake19.Ok Try.prog:=CF.of2 noNG mixed (l:=[]) .nil 3000 (by kernel_rfl)
def KAwake20:CF:=⟨124,[vI 0,vI 10500],.agg ⟨[vJ 10499,vI 10500]⟩⟩
theorem kAwake20:KAwake20.Ok Try.prog:=CF.of2 noNG mixed (l:=[]) .nil 3000 (by kernel_rfl)
def KAwake21:CF:=⟨87,[vI 0],.agg wAwake5⟩
theorem kAwake21:KAwake21.Ok Try.prog:=CF.of2 noNG mixed (l:=[]) .nil 3000 (by kernel_rfl)
def KAwake22:CF:=⟨139,[.int .u64 (.ofNat 7),vI 0],vT⟩
theorem kAwake22:KAwake22.Ok Try.prog:=CF.of2 noNG mixed (l:=[]) .nil 3000 (by kernel_rfl)
def KAwake23:CF:=⟨114,[.agg ⟨[vI 0,vI 120,vI 0,vI 0,vI 10000]⟩],vI 0⟩
theorem kAwake23:KAwake23.Ok Try.prog:=CF.of2 noNG mixed (l:=[]) .nil 3000 (by kernel_rfl)
def KAwake24:CF:=⟨100,[vI 120,vI 120],vI 0⟩
theorem kAwake24:KAwake24.Ok Try.prog:=CF.of2 noNG mixed (l:=[]) .nil 3000 (by kernel_rfl)
def KAwake25:CF:=⟨124,[vI 0,vI 3500],.agg ⟨[vJ 3499,vI 3500]⟩⟩
theorem kAwake25:KAwake25.Ok Try.prog:=CF.of2 noNG mixed (l:=[]) .nil 3000 (by kernel_rfl)
def KAwake26:CF:=⟨139,[.int .u64 (.ofNat 7),vI 1],vT⟩
theorem kAwake26:KAwake26.Ok Try.prog:=CF.of2 noNG mixed (l:=[]) .nil 3000 (by kernel_rfl)
def KAwake27:CF:=⟨114,[.agg ⟨[vI 1,vI 120,vI 1000,vI 0,vI 8000]⟩],vI 1000⟩
theorem kAwake27:KAwake27.Ok Try.prog:=CF.of2 noNG mixed (l:=[]) .nil 3000 (by kernel_rfl)
def KAwake28:CF:=⟨124,[vI 1000,vI 4000],.agg ⟨[vJ 2999,vI 5000]⟩⟩
theorem kAwake28:KAwake28.Ok Try.prog:=CF.of2 noNG mixed (l:=[]) .nil 3000 (by kernel_rfl)
def KAwake29:CF:=⟨139,[.int .u64 (.ofNat 7),vI 2],vT⟩
theorem kAwake29:KAwake29.Ok Try.prog:=CF.of2 noNG mixed (l:=[]) .nil 3000 (by kernel_rfl)
def KAwake30:CF:=⟨114,[.agg ⟨[vI 2,vI 120,vI 200,vI 100,vI 9500]⟩],vI 200⟩
theorem kAwake30:KAwake30.Ok Try.prog:=CF.of2 noNG mixed (l:=[]) .nil 3000 (by kernel_rfl)
def KAwake31:CF:=⟨124,[vI 200,vI 800],.agg ⟨[vJ 599,vI 1000]⟩⟩
theorem kAwake31:KAwake31.Ok Try.prog:=CF.of2 noNG mixed (l:=[]) .nil 3000 (by kernel_rfl)
def KAwake32:CF:=⟨114,[.agg ⟨[vI 2,vI 130,vI 300,vI 200,vI 19000]⟩],vI 300⟩
theorem kAwake32:KAwake32.Ok Try.prog:=CF.of2 noNG mixed (l:=[]) .nil 3000 (by kernel_rfl)
def KAwake33:CF:=⟨100,[vI 130,vI 120],vI 10⟩
theorem kAwake33:KAwake33.Ok Try.prog:=CF.of2 noNG mixed (l:=[]) .nil 3000 (by kernel_rfl)
def KAwake34:CF:=⟨124,[vI 300,vI 10800],.agg ⟨[vJ 10499,vI 11100]⟩⟩
theorem kAwake34:KAwake34.Ok Try.prog:=CF.of2 noNG mixed (l:=[]) .nil 3000 (by kernel_rfl)
def KAwake35:CF:=⟨124,[vI 0,vI 1000],.agg ⟨[vJ 999,vI 1000]⟩⟩
theorem kAwake35:KAwake35.Ok Try.prog:=CF.of2 noNG mixed (l:=[]) .nil 3000 (by kernel_rfl)
def KAwake36:CF:=⟨132,[.agg ⟨[.int .u64 (.ofNat 7),vI 0,vI 120]⟩,vI 119],.agg ⟨[.int .u64 (.ofNat 7),vI 0,vI 119]⟩⟩
theorem kAwake36:KAwake36.Ok Try.prog:=CF.of2 noNG mixed (l:=[]) .nil 3000 (by kernel_rfl)
def KAwake37:CF:=⟨71,[.agg ⟨[vI 100,vI 1000,vI 50,lstV wAwake0 0 3 6,lstV wAwake1 0 4 5]⟩,vI 19],vI 9500⟩
theorem kAwake37:KAwake37.Ok Try.prog:=CF.of2 noNG mixed (l:=[]) .nil 3000 (by kernel_rfl)
def KAwake38:HF:=⟨131,[.agg wAwake3,.agg ⟨[.int .u64 (.ofNat 7),vI 0,vI 119]⟩,.agg ⟨[.int .u64 (.ofNat 7),vI 0,vI 120]⟩,vI 50],⟨[oAwake0,oAwake1,oAwake0,.cells wAwake3 false,oAwake10,.cells wAwake3 false,.dead,.dead,oAwake2,oAwake3,.dead,oAwake4,oAwake5,.dead,oAwake6,oAwake7,.dead,oAwake8,oAwake9,.cells wAwake4 false,.cells wAwake3 false,.cells wAwake3 false,oAwake11,oAwake12,.cells wAwake3 false,oAwake12,.cells ⟨[vI 0,vI 0]⟩ false,.cells ⟨[vJ 999,vI 1000]⟩ false],24,[]⟩,.agg ⟨[vJ 2649,vI 2650]⟩,⟨[oAwake0,oAwake1,oAwake0,.cells wAwake3 false,oAwake13,.cells wAwake3 false,.dead,.dead,oAwake2,oAwake3,.dead,oAwake4,oAwake5,.dead,oAwake6,oAwake7,.dead,oAwake8,oAwake9,.cells wAwake4 false,.cells wAwake3 false,.cells wAwake3 false,oAwake11,oAwake12,.cells wAwake3 false,oAwake12,.cells ⟨[vI 0,vI 0]⟩ false,.cells ⟨[vJ 999,vI 1000]⟩ false],24,[4]⟩⟩
theorem kAwake38:KAwake38.Ok Try.prog:=HF.of noNG mixed (hs:=[]) .nil (l:=[KAwake21,KAwake37]) (.cons kAwake21 (.cons kAwake37 .nil)) 3000 (by kernel_rfl)
def KAwake39:CF:=⟨132,[.agg ⟨[.int .u64 (.ofNat 7),vI 0,vI 120]⟩,vI 121],.agg ⟨[.int .u64 (.ofNat 7),vI 0,vI 121]⟩⟩
theorem kAwake39:KAwake39.Ok Try.prog:=CF.of2 noNG mixed (l:=[]) .nil 3000 (by kernel_rfl)
def KAwake40:CF:=⟨71,[.agg ⟨[vI 100,vI 1000,vI 50,lstV wAwake0 0 3 6,lstV wAwake1 0 4 5]⟩,vI 21],vI 11500⟩
theorem kAwake40:KAwake40.Ok Try.prog:=CF.of2 noNG mixed (l:=[]) .nil 3000 (by kernel_rfl)
def KAwake41:HF:=⟨131,[.agg wAwake3,.agg ⟨[.int .u64 (.ofNat 7),vI 0,vI 120]⟩,.agg ⟨[.int .u64 (.ofNat 7),vI 0,vI 121]⟩,vI 0],⟨[oAwake0,oAwake1,oAwake0,.cells wAwake3 false,oAwake13,.cells wAwake3 false,.dead,.dead,oAwake2,oAwake3,.dead,oAwake4,oAwake5,.dead,oAwake6,oAwake7,.dead,oAwake8,oAwake9,.cells wAwake4 false,.cells wAwake3 false,.cells wAwake3 false,oAwake11,oAwake12,.cells wAwake3 false,oAwake12,.cells ⟨[vI 0,vI 0]⟩ false,.cells ⟨[vJ 999,vI 1000]⟩ false],24,[4]⟩,.agg ⟨[vJ 2599,vI 2600]⟩,⟨[oAwake0,oAwake1,oAwake0,.cells wAwake3 false,oAwake14,.cells wAwake3 false,.dead,.dead,oAwake2,oAwake3,.dead,oAwake4,oAwake5,.dead,oAwake6,oAwake7,.dead,oAwake8,oAwake9,.cells wAwake4 false,.cells wAwake3 false,.cells wAwake3 false,oAwake11,oAwake12,.cells wAwake3 false,oAwake12,.cells ⟨[vI 0,vI 0]⟩ false,.cells ⟨[vJ 999,vI 1000]⟩ false],24,[4,4]⟩⟩
theorem kAwake41:KAwake41.Ok Try.prog:=HF.of noNG mixed (hs:=[]) .nil (l:=[KAwake40,KAwake21]) (.cons kAwake40 (.cons kAwake21 .nil)) 3000 (by kernel_rfl)
def KAwake42:CF:=⟨132,[.agg ⟨[.int .u64 (.ofNat 7),vI 0,vI 120]⟩,vI 118],.agg ⟨[.int .u64 (.ofNat 7),vI 0,vI 118]⟩⟩
theorem kAwake42:KAwake42.Ok Try.prog:=CF.of2 noNG mixed (l:=[]) .nil 3000 (by kernel_rfl)
def KAwake43:CF:=⟨71,[.agg ⟨[vI 100,vI 1000,vI 50,lstV wAwake0 0 3 6,lstV wAwake1 0 4 5]⟩,vI 18],vI 8550⟩
theorem kAwake43:KAwake43.Ok Try.prog:=CF.of2 noNG mixed (l:=[]) .nil 3000 (by kernel_rfl)
def KAwake44:HF:=⟨131,[.agg wAwake3,.agg ⟨[.int .u64 (.ofNat 7),vI 0,vI 118]⟩,.agg ⟨[.int .u64 (.ofNat 7),vI 0,vI 120]⟩,vI 150],⟨[oAwake0,oAwake1,oAwake0,.cells wAwake3 false,oAwake14,.cells wAwake3 false,.dead,.dead,oAwake2,oAwake3,.dead,oAwake4,oAwake5,.dead,oAwake6,oAwake7,.dead,oAwake8,oAwake9,.cells wAwake4 false,.cells wAwake3 false,.cells wAwake3 false,oAwake11,oAwake12,.cells wAwake3 false,oAwake12,.cells ⟨[vI 0,vI 0]⟩ false,.cells ⟨[vJ 999,vI 1000]⟩ false],24,[4,4]⟩,.agg ⟨[vJ 1874,vI 1875]⟩,⟨[oAwake0,oAwake1,oAwake0,.cells wAwake3 false,oAwake15,.cells wAwake3 false,.dead,.dead,oAwake2,oAwake3,.dead,oAwake4,oAwake5,.dead,oAwake6,oAwake7,.dead,oAwake8,oAwake9,.cells wAwake4 false,.cells wAwake3 false,.cells wAwake3 false,oAwake11,oAwake12,.cells wAwake3 false,oAwake12,.cells ⟨[vI 0,vI 0]⟩ false,.cells ⟨[vJ 999,vI 1000]⟩ false],24,[4,4,4]⟩⟩
theorem kAwake44:KAwake44.Ok Try.prog:=HF.of noNG mixed (hs:=[]) .nil (l:=[KAwake43,KAwake21]) (.cons kAwake43 (.cons kAwake21 .nil)) 3000 (by kernel_rfl)
def KAwake45:CF:=⟨132,[.agg ⟨[.int .u64 (.ofNat 7),vI 0,vI 120]⟩,vI 122],.agg ⟨[.int .u64 (.ofNat 7),vI 0,vI 122]⟩⟩
theorem kAwake45:KAwake45.Ok Try.prog:=CF.of2 noNG mixed (l:=[]) .nil 3000 (by kernel_rfl)
def KAwake46:CF:=⟨71,[.agg ⟨[vI 100,vI 1000,vI 50,lstV wAwake0 0 3 6,lstV wAwake1 0 4 5]⟩,vI 22],vI 12500⟩
theorem kAwake46:KAwake46.Ok Try.prog:=CF.of2 noNG mixed (l:=[]) .nil 3000 (by kernel_rfl)
def KAwake47:HF:=⟨131,[.agg wAwake3,.agg ⟨[.int .u64 (.ofNat 7),vI 0,vI 120]⟩,.agg ⟨[.int .u64 (.ofNat 7),vI 0,vI 122]⟩,vI 50],⟨[oAwake0,oAwake1,oAwake0,.cells wAwake3 false,oAwake15,.cells wAwake3 false,.dead,.dead,oAwake2,oAwake3,.dead,oAwake4,oAwake5,.dead,oAwake6,oAwake7,.dead,oAwake8,oAwake9,.cells wAwake4 false,.cells wAwake3 false,.cells wAwake3 false,oAwake11,oAwake12,.cells wAwake3 false,oAwake12,.cells ⟨[vI 0,vI 0]⟩ false,.cells ⟨[vJ 999,vI 1000]⟩ false],24,[4,4,4]⟩,.agg ⟨[vJ 1824,vI 1825]⟩,⟨[oAwake0,oAwake1,oAwake0,.cells wAwake3 false,oAwake16,.cells wAwake3 false,.dead,.dead,oAwake2,oAwake3,.dead,oAwake4,oAwake5,.dead,oAwake6,oAwake7,.dead,oAwake8,oAwake9,.cells wAwake4 false,.cells wAwake3 false,.cells wAwake3 false,oAwake11,oAwake12,.cells wAwake3 false,oAwake12,.cells ⟨[vI 0,vI 0]⟩ false,.cells ⟨[vJ 999,vI 1000]⟩ false],24,[4,4,4,4]⟩⟩
theorem kAwake47:KAwake47.Ok Try.prog:=HF.of noNG mixed (hs:=[]) .nil (l:=[KAwake21,KAwake46]) (.cons kAwake21 (.cons kAwake46 .nil)) 3000 (by kernel_rfl)
def KAwake48:CF:=⟨132,[.agg ⟨[.int .u64 (.ofNat 7),vI 0,vI 120]⟩,vI 117],.agg ⟨[.int .u64 (.ofNat 7),vI 0,vI 117]⟩⟩
theorem kAwake48:KAwake48.Ok Try.prog:=CF.of2 noNG mixed (l:=[]) .nil 3000 (by kernel_rfl)
def KAwake49:CF:=⟨71,[.agg ⟨[vI 100,vI 1000,vI 50,lstV wAwake0 0 3 6,lstV wAwake1 0 4 5]⟩,vI 17],vI 7650⟩
theorem kAwake49:KAwake49.Ok Try.prog:=CF.of2 noNG mixed (l:=[]) .nil 3000 (by kernel_rfl)
def KAwake50:HF:=⟨131,[.agg wAwake3,.agg ⟨[.int .u64 (.ofNat 7),vI 0,vI 117]⟩,.agg ⟨[.int .u64 (.ofNat 7),vI 0,vI 120]⟩,vI 300],⟨[oAwake0,oAwake1,oAwake0,.cells wAwake3 false,oAwake16,.cells wAwake3 false,.dead,.dead,oAwake2,oAwake3,.dead,oAwake4,oAwake5,.dead,oAwake6,oAwake7,.dead,oAwake8,oAwake9,.cells wAwake4 false,.cells wAwake3 false,.cells wAwake3 false,oAwake11,oAwake12,.cells wAwake3 false,oAwake12,.cells ⟨[vI 0,vI 0]⟩ false,.cells ⟨[vJ 999,vI 1000]⟩ false],24,[4,4,4,4]⟩,.agg ⟨[vJ 1632,vI 1633]⟩,⟨[oAwake0,oAwake1,oAwake0,.cells wAwake3 false,oAwake17,.cells wAwake3 false,.dead,.dead,oAwake2,oAwake3,.dead,oAwake4,oAwake5,.dead,oAwake6,oAwake7,.dead,oAwake8,oAwake9,.cells wAwake4 false,.cells wAwake3 false,.cells wAwake3 false,oAwake11,oAwake12,.cells wAwake3 false,oAwake12,.cells ⟨[vI 0,vI 0]⟩ false,.cells ⟨[vJ 999,vI 1000]⟩ false],24,[4,4,4,4,4]⟩⟩
theorem kAwake50:KAwake50.Ok Try.prog:=HF.of noNG mixed (hs:=[]) .nil (l:=[KAwake49,KAwake21]) (.cons kAwake49 (.cons kAwake21 .nil)) 3000 (by kernel_rfl)
def KAwake51:CF:=⟨132,[.agg ⟨[.int .u64 (.ofNat 7),vI 0,vI 120]⟩,vI 123],.agg ⟨[.int .u64 (.ofNat 7),vI 0,vI 123]⟩⟩
theorem kAwake51:KAwake51.Ok Try.prog:=CF.of2 noNG mixed (l:=[]) .nil 3000 (by kernel_rfl)
def KAwake52:CF:=⟨71,[.agg ⟨[vI 100,vI 1000,vI 50,lstV wAwake0 0 3 6,lstV wAwake1 0 4 5]⟩,vI 23],vI 13500⟩
theorem kAwake52:KAwake52.Ok Try.prog:=CF.of2 noNG mixed (l:=[]) .nil 3000 (by kernel_rfl)
def KAwake53:HF:=⟨131,[.agg wAwake3,.agg ⟨[.int .u64 (.ofNat 7),vI 0,vI 120]⟩,.agg ⟨[.int .u64 (.ofNat 7),vI 0,vI 123]⟩,vI 150],⟨[oAwake0,oAwake1,oAwake0,.cells wAwake3 false,oAwake17,.cells wAwake3 false,.dead,.dead,oAwake2,oAwake3,.dead,oAwake4,oAwake5,.dead,oAwake6,oAwake7,.dead,oAwake8,oAwake9,.cells wAwake4 false,.cells wAwake3 false,.cells wAwake3 false,oAwake11,oAwake12,.cells wAwake3 false,oAwake12,.cells ⟨[vI 0,vI 0]⟩ false,.cells ⟨[vJ 999,vI 1000]⟩ false],24,[4,4,4,4,4]⟩,.agg ⟨[vJ 1582,vI 1583]⟩,⟨[oAwake0,oAwake1,oAwake0,.cells wAwake3 false,oAwake18,.cells wAwake3 false,.dead,.dead,oAwake2,oAwake3,.dead,oAwake4,oAwake5,.dead,oAwake6,oAwake7,.dead,oAwake8,oAwake9,.cells wAwake4 false,.cells wAwake3 false,.cells wAwake3 false,oAwake11,oAwake12,.cells wAwake3 false,oAwake12,.cells ⟨[vI 0,vI 0]⟩ false,.cells ⟨[vJ 999,vI 1000]⟩ false],24,[4,4,4,4,4,4]⟩⟩
theorem kAwake53:KAwake53.Ok Try.prog:=HF.of noNG mixed (hs:=[]) .nil (l:=[KAwake52,KAwake21]) (.cons kAwake52 (.cons kAwake21 .nil)) 3000 (by kernel_rfl)
def KAwake54:CF:=⟨132,[.agg ⟨[.int .u64 (.ofNat 7),vI 0,vI 120]⟩,vI 116],.agg ⟨[.int .u64 (.ofNat 7),vI 0,vI 116]⟩⟩
theorem kAwake54:KAwake54.Ok Try.prog:=CF.of2 noNG mixed (l:=[]) .nil 3000 (by kernel_rfl)
def KAwake55:CF:=⟨71,[.agg ⟨[vI 100,vI 1000,vI 50,lstV wAwake0 0 3 6,lstV wAwake1 0 4 5]⟩,vI 16],vI 6800⟩
theorem kAwake55:KAwake55.Ok Try.prog:=CF.of2 noNG mixed (l:=[]) .nil 3000 (by kernel_rfl)
def KAwake56:HF:=⟨131,[.agg wAwake3,.agg ⟨[.int .u64 (.ofNat 7),vI 0,vI 116]⟩,.agg ⟨[.int .u64 (.ofNat 7),vI 0,vI 120]⟩,vI 500],⟨[oAwake0,oAwake1,oAwake0,.cells wAwake3 false,oAwake18,.cells wAwake3 false,.dead,.dead,oAwake2,oAwake3,.dead,oAwake4,oAwake5,.dead,oAwake6,oAwake7,.dead,oAwake8,oAwake9,.cells wAwake4 false,.cells wAwake3 false,.cells wAwake3 false,oAwake11,oAwake12,.cells wAwake3 false,oAwake12,.cells ⟨[vI 0,vI 0]⟩ false,.cells ⟨[vJ 999,vI 1000]⟩ false],24,[4,4,4,4,4,4]⟩,.agg ⟨[vJ 1524,vI 1525]⟩,⟨[oAwake0,oAwake1,oAwake0,.cells wAwake3 false,oAwake19,.cells wAwake3 false,.dead,.dead,oAwake2,oAwake3,.dead,oAwake4,oAwake5,.dead,oAwake6,oAwake7,.dead,oAwake8,oAwake9,.cells wAwake4 false,.cells wAwake3 false,.cells wAwake3 false,oAwake11,oAwake12,.cells wAwake3 false,oAwake12,.cells ⟨[vI 0,vI 0]⟩ false,.cells ⟨[vJ 999,vI 1000]⟩ false],24,[4,4,4,4,4,4,4]⟩⟩
theorem kAwake56:KAwake56.Ok Try.prog:=HF.of noNG mixed (hs:=[]) .nil (l:=[KAwake21,KAwake55]) (.cons kAwake21 (.cons kAwake55 .nil)) 3000 (by kernel_rfl)
def KAwake57:CF:=⟨132,[.agg ⟨[.int .u64 (.ofNat 7),vI 0,vI 120]⟩,vI 124],.agg ⟨[.int .u64 (.ofNat 7),vI 0,vI 124]⟩⟩
theorem kAwake57:KAwake57.Ok Try.prog:=CF.of2 noNG mixed (l:=[]) .nil 3000 (by kernel_rfl)
def KAwake58:CF:=⟨71,[.agg ⟨[vI 100,vI 1000,vI 50,lstV wAwake0 0 3 6,lstV wAwake1 0 4 5]⟩,vI 24],vI 14500⟩
theorem kAwake58:KAwake58.Ok Try.prog:=CF.of2 noNG mixed (l:=[]) .nil 3000 (by kernel_rfl)
def KAwake59:HF:=⟨131,[.agg wAwake3,.agg ⟨[.int .u64 (.ofNat 7),vI 0,vI 120]⟩,.agg ⟨[.int .u64 (.ofNat 7),vI 0,vI 124]⟩,vI 300],⟨[oAwake0,oAwake1,oAwake0,.cells wAwake3 false,oAwake19,.cells wAwake3 false,.dead,.dead,oAwake2,oAwake3,.dead,oAwake4,oAwake5,.dead,oAwake6,oAwake7,.dead,oAwake8,oAwake9,.cells wAwake4 false,.cells wAwake3 false,.cells wAwake3 false,oAwake11,oAwake12,.cells wAwake3 false,oAwake12,.cells ⟨[vI 0,vI 0]⟩ false,.cells ⟨[vJ 999,vI 1000]⟩ false],24,[4,4,4,4,4,4,4]⟩,.agg ⟨[vJ 1474,vI 1475]⟩,⟨[oAwake0,oAwake1,oAwake0,.cells wAwake3 false,oAwake20,.cells wAwake3 false,.dead,.dead,oAwake2,oAwake3,.dead,oAwake4,oAwake5,.dead,oAwake6,oAwake7,.dead,oAwake8,oAwake9,.cells wAwake4 false,.cells wAwake3 false,.cells wAwake3 false,oAwake11,oAwake12,.cells wAwake3 false,oAwake12,.cells ⟨[vI 0,vI 0]⟩ false,.cells ⟨[vJ 999,vI 1000]⟩ false],24,[4,4,4,4,4,4,4,4]⟩⟩
theorem kAwake59:KAwake59.Ok Try.prog:=HF.of noNG mixed (hs:=[]) .nil (l:=[KAwake58,KAwake21]) (.cons kAwake58 (.cons kAwake21 .nil)) 3000 (by kernel_rfl)
def KAwake60:CF:=⟨132,[.agg ⟨[.int .u64 (.ofNat 7),vI 0,vI 120]⟩,vI 115],.agg ⟨[.int .u64 (.ofNat 7),vI 0,vI 115]⟩⟩
theorem kAwake60:KAwake60.Ok Try.prog:=CF.of2 noNG mixed (l:=[]) .nil 3000 (by kernel_rfl)
def KAwake61:CF:=⟨71,[.agg ⟨[vI 100,vI 1000,vI 50,lstV wAwake0 0 3 6,lstV wAwake1 0 4 5]⟩,vI 15],vI 6000⟩
theorem kAwake61:KAwake61.Ok Try.prog:=CF.of2 noNG mixed (l:=[]) .nil 3000 (by kernel_rfl)
def KAwake62:HF:=⟨131,[.agg wAwake3,.agg ⟨[.int .u64 (.ofNat 7),vI 0,vI 115]⟩,.agg ⟨[.int .u64 (.ofNat 7),vI 0,vI 120]⟩,vI 750],⟨[oAwake0,oAwake1,oAwake0,.cells wAwake3 false,oAwake20,.cells wAwake3 false,.dead,.dead,oAwake2,oAwake3,.dead,oAwake4,oAwake5,.dead,oAwake6,oAwake7,.dead,oAwake8,oAwake9,.cells wAwake4 false,.cells wAwake3 false,.cells wAwake3 false,oAwake11,oAwake12,.cells wAwake3 false,oAwake12,.cells ⟨[vI 0,vI 0]⟩ false,.cells ⟨[vJ 999,vI 1000]⟩ false],24,[4,4,4,4,4,4,4,4]⟩,.agg ⟨[vJ 1469,vI 1470]⟩,⟨[oAwake0,oAwake1,oAwake0,.cells wAwake3 false,oAwake21,.cells wAwake3 false,.dead,.dead,oAwake2,oAwake3,.dead,oAwake4,oAwake5,.dead,oAwake6,oAwake7,.dead,oAwake8,oAwake9,.cells wAwake4 false,.cells wAwake3 false,.cells wAwake3 false,oAwake11,oAwake12,.cells wAwake3 false,oAwake12,.cells ⟨[vI 0,vI 0]⟩ false,.cells ⟨[vJ 999,vI 1000]⟩ false],24,[4,4,4,4,4,4,4,4,4]⟩⟩
theorem kAwake62:KAwake62.Ok Try.prog:=HF.of noNG mixed (hs:=[]) .nil (l:=[KAwake21,KAwake61]) (.cons kAwake21 (.cons kAwake61 .nil)) 3000 (by kernel_rfl)
def KAwake63:CF:=⟨132,[.agg ⟨[.int .u64 (.ofNat 7),vI 0,vI 120]⟩,vI 125],.agg ⟨[.int .u64 (.ofNat 7),vI 0,vI 125]⟩⟩
theorem kAwake63:KAwake63.Ok Try.prog:=CF.of2 noNG mixed (l:=[]) .nil 3000 (by kernel_rfl)
def KAwake64:CF:=⟨71,[.agg ⟨[vI 100,vI 1000,vI 50,lstV wAwake0 0 3 6,lstV wAwake1 0 4 5]⟩,vI 25],vI 15500⟩
theorem kAwake64:KAwake64.Ok Try.prog:=CF.of2 noNG mixed (l:=[]) .nil 3000 (by kernel_rfl)
def KAwake65:HF:=⟨131,[.agg wAwake3,.agg ⟨[.int .u64 (.ofNat 7),vI 0,vI 120]⟩,.agg ⟨[.int .u64 (.ofNat 7),vI 0,vI 125]⟩,vI 500],⟨[oAwake0,oAwake1,oAwake0,.cells wAwake3 false,oAwake21,.cells wAwake3 false,.dead,.dead,oAwake2,oAwake3,.dead,oAwake4,oAwake5,.dead,oAwake6,oAwake7,.dead,oAwake8,oAwake9,.cells wAwake4 false,.cells wAwake3 false,.cells wAwake3 false,oAwake11,oAwake12,.cells wAwake3 false,oAwake12,.cells ⟨[vI 0,vI 0]⟩ false,.cells ⟨[vJ 999,vI 1000]⟩ false],24,[4,4,4,4,4,4,4,4,4]⟩,.agg ⟨[vJ 1399,vI 1420]⟩,⟨[oAwake0,oAwake1,oAwake0,.cells wAwake3 false,oAwake22,.cells wAwake3 false,.dead,.dead,oAwake2,oAwake3,.dead,oAwake4,oAwake5,.dead,oAwake6,oAwake7,.dead,oAwake8,oAwake9,.cells wAwake4 false,.cells wAwake3 false,.cells wAwake3 false,oAwake11,oAwake12,.cells wAwake3 false,oAwake12,.cells ⟨[vI 0,vI 0]⟩ false,.cells ⟨[vJ 999,vI 1000]⟩ false],24,[4,4,4,4,4,4,4,4,4,4]⟩⟩
theorem kAwake65:KAwake65.Ok Try.prog:=HF.of noNG mixed (hs:=[]) .nil (l:=[KAwake64,KAwake21]) (.cons kAwake64 (.cons kAwake21 .nil)) 3000 (by kernel_rfl)
def KAwake66:CF:=⟨132,[.agg ⟨[.int .u64 (.ofNat 7),vI 0,vI 120]⟩,vI 114],.agg ⟨[.int .u64 (.ofNat 7),vI 0,vI 114]⟩⟩
theorem kAwake66:KAwake66.Ok Try.prog:=CF.of2 noNG mixed (l:=[]) .nil 3000 (by kernel_rfl)
def KAwake67:CF:=⟨71,[.agg ⟨[vI 100,vI 1000,vI 50,lstV wAwake0 0 3 6,lstV wAwake1 0 4 5]⟩,vI 14],vI 5250⟩
theorem kAwake67:KAwake67.Ok Try.prog:=CF.of2 noNG mixed (l:=[]) .nil 3000 (by kernel_rfl)
def KAwake68:HF:=⟨131,[.agg wAwake3,.agg ⟨[.int .u64 (.ofNat 7),vI 0,vI 114]⟩,.agg ⟨[.int .u64 (.ofNat 7),vI 0,vI 120]⟩,vI 1050],⟨[oAwake0,oAwake1,oAwake0,.cells wAwake3 false,oAwake22,.cells wAwake3 false,.dead,.dead,oAwake2,oAwake3,.dead,oAwake4,oAwake5,.dead,oAwake6,oAwake7,.dead,oAwake8,oAwake9,.cells wAwake4 false,.cells wAwake3 false,.cells wAwake3 false,oAwake11,oAwake12,.cells wAwake3 false,oAwake12,.cells ⟨[vI 0,vI 0]⟩ false,.cells ⟨[vJ 999,vI 1000]⟩ false],24,[4,4,4,4,4,4,4,4,4,4]⟩,.agg ⟨[vJ 1149,vI 1216]⟩,⟨[oAwake0,oAwake1,oAwake0,.cells wAwake3 false,oAwake23,.cells wAwake3 false,.dead,.dead,oAwake2,oAwake3,.dead,oAwake4,oAwake5,.dead,oAwake6,oAwake7,.dead,oAwake8,oAwake9,.cells wAwake4 false,.cells wAwake3 false,.cells wAwake3 false,oAwake11,oAwake12,.cells wAwake3 false,oAwake12,.cells ⟨[vI 0,vI 0]⟩ false,.cells ⟨[vJ 999,vI 1000]⟩ false],24,[4,4,4,4,4,4,4,4,4,4,4]⟩⟩
theorem kAwake68:KAwake68.Ok Try.prog:=HF.of noNG mixed (hs:=[]) .nil (l:=[KAwake67,KAwake21]) (.cons kAwake67 (.cons kAwake21 .nil)) 3000 (by kernel_rfl)
def KAwake69:CF:=⟨132,[.agg ⟨[.int .u64 (.ofNat 7),vI 0,vI 120]⟩,vI 126],.agg ⟨[.int .u64 (.ofNat 7),vI 0,vI 126]⟩⟩
theorem kAwake69:KAwake69.Ok Try.prog:=CF.of2 noNG mixed (l:=[]) .nil 3000 (by kernel_rfl)
def KAwake70:CF:=⟨71,[.agg ⟨[vI 100,vI 1000,vI 50,lstV wAwake0 0 3 6,lstV wAwake1 0 4 5]⟩,vI 26],vI 16500⟩
theorem kAwake70:KAwake70.Ok Try.prog:=CF.of2 noNG mixed (l:=[]) .nil 3000 (by kernel_rfl)
def KAwake71:HF:=⟨131,[.agg wAwake3,.agg ⟨[.int .u64 (.ofNat 7),vI 0,vI 120]⟩,.agg ⟨[.int .u64 (.ofNat 7),vI 0,vI 126]⟩,vI 750],⟨[oAwake0,oAwake1,oAwake0,.cells wAwake3 false,oAwake23,.cells wAwake3 false,.dead,.dead,oAwake2,oAwake3,.dead,oAwake4,oAwake5,.dead,oAwake6,oAwake7,.dead,oAwake8,oAwake9,.cells wAwake4 false,.cells wAwake3 false,.cells wAwake3 false,oAwake11,oAwake12,.cells wAwake3 false,oAwake12,.cells ⟨[vI 0,vI 0]⟩ false,.cells ⟨[vJ 999,vI 1000]⟩ false],24,[4,4,4,4,4,4,4,4,4,4,4]⟩,.agg ⟨[vJ 1040,vI 1075]⟩,⟨[oAwake0,oAwake1,oAwake0,.cells wAwake3 false,oAwake24,.cells wAwake3 false,.dead,.dead,oAwake2,oAwake3,.dead,oAwake4,oAwake5,.dead,oAwake6,oAwake7,.dead,oAwake8,oAwake9,.cells wAwake4 false,.cells wAwake3 false,.cells wAwake3 false,oAwake11,oAwake12,.cells wAwake3 false,oAwake12,.cells ⟨[vI 0,vI 0]⟩ false,.cells ⟨[vJ 999,vI 1000]⟩ false],24,[4,4,4,4,4,4,4,4,4,4,4,4]⟩⟩
theorem kAwake71:KAwake71.Ok Try.prog:=HF.of noNG mixed (hs:=[]) .nil (l:=[KAwake21,KAwake70]) (.cons kAwake21 (.cons kAwake70 .nil)) 3000 (by kernel_rfl)
def KAwake72:CF:=⟨132,[.agg ⟨[.int .u64 (.ofNat 7),vI 0,vI 120]⟩,vI 113],.agg ⟨[.int .u64 (.ofNat 7),vI 0,vI 113]⟩⟩
theorem kAwake72:KAwake72.Ok Try.prog:=CF.of2 noNG mixed (l:=[]) .nil 3000 (by kernel_rfl)
def KAwake73:CF:=⟨71,[.agg ⟨[vI 100,vI 1000,vI 50,lstV wAwake0 0 3 6,lstV wAwake1 0 4 5]⟩,vI 13],vI 4550⟩
theorem kAwake73:KAwake73.Ok Try.prog:=CF.of2 noNG mixed (l:=[]) .nil 3000 (by kernel_rfl)
def KAwake74:HF:=⟨131,[.agg wAwake3,.agg ⟨[.int .u64 (.ofNat 7),vI 0,vI 113]⟩,.agg ⟨[.int .u64 (.ofNat 7),vI 0,vI 120]⟩,vI 1400],⟨[oAwake0,oAwake1,oAwake0,.cells wAwake3 false,oAwake24,.cells wAwake3 false,.dead,.dead,oAwake2,oAwake3,.dead,oAwake4,oAwake5,.dead,oAwake6,oAwake7,.dead,oAwake8,oAwake9,.cells wAwake4 false,.cells wAwake3 false,.cells wAwake3 false,oAwake11,oAwake12,.cells wAwake3 false,oAwake12,.cells ⟨[vI 0,vI 0]⟩ false,.cells ⟨[vJ 999,vI 1000]⟩ false],24,[4,4,4,4,4,4,4,4,4,4,4,4]⟩,.agg ⟨[vJ 934,vI 992]⟩,⟨[oAwake0,oAwake1,oAwake0,.cells wAwake3 false,oAwake25,.cells wAwake3 false,.dead,.dead,oAwake2,oAwake3,.dead,oAwake4,oAwake5,.dead,oAwake6,oAwake7,.dead,oAwake8,oAwake9,.cells wAwake4 false,.cells wAwake3 false,.cells wAwake3 false,oAwake11,oAwake12,.cells wAwake3 false,oAwake12,.cells ⟨[vI 0,vI 0]⟩ false,.cells ⟨[vJ 999,vI 1000]⟩ false],24,[4,4,4,4,4,4,4,4,4,4,4,4,4]⟩⟩
theorem kAwake74:KAwake74.Ok Try.prog:=HF.of noNG mixed (hs:=[]) .nil (l:=[KAwake73,KAwake21]) (.cons kAwake73 (.cons kAwake21 .nil)) 3000 (by kernel_rfl)
def KAwake75:CF:=⟨132,[.agg ⟨[.int .u64 (.ofNat 7),vI 0,vI 120]⟩,vI 127],.agg ⟨[.int .u64 (.ofNat 7),vI 0,vI 127]⟩⟩
theorem kAwake75:KAwake75.Ok Try.prog:=CF.of2 noNG mixed (l:=[]) .nil 3000 (by kernel_rfl)
def KAwake76:CF:=⟨71,[.agg ⟨[vI 100,vI 1000,vI 50,lstV wAwake0 0 3 6,lstV wAwake1 0 4 5]⟩,vI 27],vI 17500⟩
theorem kAwake76:KAwake76.Ok Try.prog:=CF.of2 noNG mixed (l:=[]) .nil 3000 (by kernel_rfl)
def KAwake77:HF:=⟨131,[.agg wAwake3,.agg ⟨[.int .u64 (.ofNat 7),vI 0,vI 120]⟩,.agg ⟨[.int .u64 (.ofNat 7),vI 0,vI 127]⟩,vI 1050],⟨[oAwake0,oAwake1,oAwake0,.cells wAwake3 false,oAwake25,.cells wAwake3 false,.dead,.dead,oAwake2,oAwake3,.dead,oAwake4,oAwake5,.dead,oAwake6,oAwake7,.dead,oAwake8,oAwake9,.cells wAwake4 false,.cells wAwake3 false,.cells wAwake3 false,oAwake11,oAwake12,.cells wAwake3 false,oAwake12,.cells ⟨[vI 0,vI 0]⟩ false,.cells ⟨[vJ 934,vI 992]⟩ false],24,[4,4,4,4,4,4,4,4,4,4,4,4,4]⟩,.agg ⟨[vJ 791,vI 821]⟩,⟨[oAwake0,oAwake1,oAwake0,.cells wAwake3 false,oAwake26,.cells wAwake3 false,.dead,.dead,oAwake2,oAwake3,.dead,oAwake4,oAwake5,.dead,oAwake6,oAwake7,.dead,oAwake8,oAwake9,.cells wAwake4 false,.cells wAwake3 false,.cells wAwake3 false,oAwake11,oAwake12,.cells wAwake3 false,oAwake12,.cells ⟨[vI 0,vI 0]⟩ false,.cells ⟨[vJ 934,vI 992]⟩ false],24,[4,4,4,4,4,4,4,4,4,4,4,4,4,4]⟩⟩
theorem kAwake77:KAwake77.Ok Try.prog:=HF.of noNG mixed (hs:=[]) .nil (l:=[KAwake76,KAwake21]) (.cons kAwake76 (.cons kAwake21 .nil)) 3000 (by kernel_rfl)
def KAwake78:CF:=⟨132,[.agg ⟨[.int .u64 (.ofNat 7),vI 0,vI 120]⟩,vI 112],.agg ⟨[.int .u64 (.ofNat 7),vI 0,vI 112]⟩⟩
theorem kAwake78:KAwake78.Ok Try.prog:=CF.of2 noNG mixed (l:=[]) .nil 3000 (by kernel_rfl)
def KAwake79:CF:=⟨71,[.agg ⟨[vI 100,vI 1000,vI 50,lstV wAwake0 0 3 6,lstV wAwake1 0 4 5]⟩,vI 12],vI 3900⟩
theorem kAwake79:KAwake79.Ok Try.prog:=CF.of2 noNG mixed (l:=[]) .nil 3000 (by kernel_rfl)
def KAwake80:HF:=⟨131,[.agg wAwake3,.agg ⟨[.int .u64 (.ofNat 7),vI 0,vI 112]⟩,.agg ⟨[.int .u64 (.ofNat 7),vI 0,vI 120]⟩,vI 1800],⟨[oAwake0,oAwake1,oAwake0,.cells wAwake3 false,oAwake26,.cells wAwake3 false,.dead,.dead,oAwake2,oAwake3,.dead,oAwake4,oAwake5,.dead,oAwake6,oAwake7,.dead,oAwake8,oAwake9,.cells wAwake4 false,.cells wAwake3 false,.cells wAwake3 false,oAwake11,oAwake12,.cells wAwake3 false,oAwake12,.cells ⟨[vI 0,vI 0]⟩ false,.cells ⟨[vJ 791,vI 821]⟩ false],24,[4,4,4,4,4,4,4,4,4,4,4,4,4,4]⟩,.agg ⟨[vJ 786,vI 837]⟩,⟨[oAwake0,oAwake1,oAwake0,.cells wAwake3 false,oAwake27,.cells wAwake3 false,.dead,.dead,oAwake2,oAwake3,.dead,oAwake4,oAwake5,.dead,oAwake6,oAwake7,.dead,oAwake8,oAwake9,.cells wAwake4 false,.cells wAwake3 false,.cells wAwake3 false,oAwake11,oAwake12,.cells wAwake3 false,oAwake12,.cells ⟨[vI 0,vI 0]⟩ false,.cells ⟨[vJ 791,vI 821]⟩ false],24,[4,4,4,4,4,4,4,4,4,4,4,4,4,4,4]⟩⟩
theorem kAwake80:KAwake80.Ok Try.prog:=HF.of noNG mixed (hs:=[]) .nil (l:=[KAwake21,KAwake79]) (.cons kAwake21 (.cons kAwake79 .nil)) 3000 (by kernel_rfl)
def KAwake81:CF:=⟨132,[.agg ⟨[.int .u64 (.ofNat 7),vI 0,vI 120]⟩,vI 128],.agg ⟨[.int .u64 (.ofNat 7),vI 0,vI 128]⟩⟩
theorem kAwake81:KAwake81.Ok Try.prog:=CF.of2 noNG mixed (l:=[]) .nil 3000 (by kernel_rfl)
def KAwake82:CF:=⟨71,[.agg ⟨[vI 100,vI 1000,vI 50,lstV wAwake0 0 3 6,lstV wAwake1 0 4 5]⟩,vI 28],vI 18500⟩
theorem kAwake82:KAwake82.Ok Try.prog:=CF.of2 noNG mixed (l:=[]) .nil 3000 (by kernel_rfl)
def KAwake83:HF:=⟨131,[.agg wAwake3,.agg ⟨[.int .u64 (.ofNat 7),vI 0,vI 120]⟩,.agg ⟨[.int .u64 (.ofNat 7),vI 0,vI 128]⟩,vI 1400],⟨[oAwake0,oAwake1,oAwake0,.cells wAwake3 false,oAwake27,.cells wAwake3 false,.dead,.dead,oAwake2,oAwake3,.dead,oAwake4,oAwake5,.dead,oAwake6,oAwake7,.dead,oAwake8,oAwake9,.cells wAwake4 false,.cells wAwake3 false,.cells wAwake3 false,oAwake11,oAwake12,.cells wAwake3 false,oAwake12,.cells ⟨[vI 0,vI 0]⟩ false,.cells ⟨[vJ 786,vI 821]⟩ false],24,[4,4,4,4,4,4,4,4,4,4,4,4,4,4,4]⟩,.agg ⟨[vJ 611,vI 637]⟩,⟨[oAwake0,oAwake1,oAwake0,.cells wAwake3 false,oAwake28,.cells wAwake3 false,.dead,.dead,oAwake2,oAwake3,.dead,oAwake4,oAwake5,.dead,oAwake6,oAwake7,.dead,oAwake8,oAwake9,.cells wAwake4 false,.cells wAwake3 false,.cells wAwake3 false,oAwake11,oAwake12,.cells wAwake3 false,oAwake12,.cells ⟨[vI 0,vI 0]⟩ false,.cells ⟨[vJ 786,vI 821]⟩ false],24,[4,4,4,4,4,4,4,4,4,4,4,4,4,4,4,4]⟩⟩
theorem kAwake83:KAwake83.Ok Try.prog:=HF.of noNG mixed (hs:=[]) .nil (l:=[KAwake82,KAwake21]) (.cons kAwake82 (.cons kAwake21 .nil)) 3000 (by kernel_rfl)
def KAwake84:HF:=⟨104,[.agg wAwake3,.agg ⟨[.int .u64 (.ofNat 7),vI 0,vI 120]⟩],⟨[oAwake0,oAwake1,oAwake0,.cells wAwake3 false,oAwake10,.cells wAwake3 false,.dead,.dead,oAwake2,oAwake3,.dead,oAwake4,oAwake5,.dead,oAwake6,oAwake7,.dead,oAwake8,oAwake9,.cells wAwake4 false,.cells wAwake3 false,.cells wAwake3 false,oAwake11,oAwake12],21,[4]⟩,.agg ⟨[vJ 611,vI 637]⟩,⟨[oAwake0,oAwake1,oAwake0,.cells wAwake3 false,oAwake28,.cells wAwake3 false,.dead,.dead,oAwake2,oAwake3,.dead,oAwake4,oAwake5,.dead,oAwake6,oAwake7,.dead,oAwake8,oAwake9,.cells wAwake4 false,.cells wAwake3 false,.cells wAwake3 false,oAwake11,oAwake12],21,[4,4,4,4,4,4,4,4,4,4,4,4,4,4,4,4,4]⟩⟩
theorem kAwake84:KAwake84.Ok Try.prog:=HF.of noNG mixed (hs:=[KAwake38,KAwake41,KAwake44,KAwake47,KAwake50,KAwake53,KAwake56,KAwake59,KAwake62,KAwake65,KAwake68,KAwake71,KAwake74,KAwake77,KAwake80,KAwake83]) (.cons kAwake38 (.cons kAwake41 (.cons kAwake44 (.cons kAwake47 (.cons kAwake50 (.cons kAwake53 (.cons kAwake56 (.cons kAwake59 (.cons kAwake62 (.cons kAwake65 (.cons kAwake68 (.cons kAwake71 (.cons kAwake74 (.cons kAwake77 (.cons kAwake80 (.cons kAwake83 .nil)))))))))))))))) (l:=[KAwake35,KAwake36,KAwake39,KAwake42,KAwake45,KAwake48,KAwake51,KAwake54,KAwake57,KAwake60,KAwake63,KAwake66,KAwake69,KAwake72,KAwake75,KAwake78,KAwake81]) (.cons kAwake35 (.cons kAwake36 (.cons kAwake39 (.cons kAwake42 (.cons kAwake45 (.cons kAwake48 (.cons kAwake51 (.cons kAwake54 (.cons kAwake57 (.cons kAwake60 (.cons kAwake63 (.cons kAwake66 (.cons kAwake69 (.cons kAwake72 (.cons kAwake75 (.cons kAwake78 (.cons kAwake81 .nil))))))))))))))))) 3000 (by kernel_rfl)
def KAwake85:CF:=⟨87,[vI 1],.agg wAwake6⟩
theorem kAwake85:KAwake85.Ok Try.prog:=CF.of2 noNG mixed (l:=[]) .nil 3000 (by kernel_rfl)
def KAwake86:CF:=⟨117,[.agg ⟨[vI 0,vI 120,vI 0,vI 0,vI 10000]⟩],vI 0⟩
theorem kAwake86:KAwake86.Ok Try.prog:=CF.of2 noNG mixed (l:=[]) .nil 3000 (by kernel_rfl)
def KAwake87:CF:=⟨117,[.agg ⟨[vI 1,vI 120,vI 1000,vI 0,vI 8000]⟩],vI 0⟩
theorem kAwake87:KAwake87.Ok Try.prog:=CF.of2 noNG mixed (l:=[]) .nil 3000 (by kernel_rfl)
def KAwake88:CF:=⟨124,[vI 0,vI 4000],.agg ⟨[vJ 3999,vI 4000]⟩⟩
theorem kAwake88:KAwake88.Ok Try.prog:=CF.of2 noNG mixed (l:=[]) .nil 3000 (by kernel_rfl)
def KAwake89:CF:=⟨117,[.agg ⟨[vI 2,vI 120,vI 200,vI 100,vI 9500]⟩],vI 100⟩
theorem kAwake89:KAwake89.Ok Try.prog:=CF.of2 noNG mixed (l:=[]) .nil 3000 (by kernel_rfl)
def KAwake90:CF:=⟨124,[vI 100,vI 800],.agg ⟨[vJ 699,vI 900]⟩⟩
theorem kAwake90:KAwake90.Ok Try.prog:=CF.of2 noNG mixed (l:=[]) .nil 3000 (by kernel_rfl)
def KAwake91:CF:=⟨117,[.agg ⟨[vI 2,vI 130,vI 300,vI 200,vI 19000]⟩],vI 200⟩
theorem kAwake91:KAwake91.Ok Try.prog:=CF.of2 noNG mixed (l:=[]) .nil 3000 (by kernel_rfl)
def KAwake92:CF:=⟨124,[vI 200,vI 10800],.agg ⟨[vJ 10599,vI 11000]⟩⟩
theorem kAwake92:KAwake92.Ok Try.prog:=CF.of2 noNG mixed (l:=[]) .nil 3000 (by kernel_rfl)
def KAwake93:CF:=⟨132,[.agg ⟨[.int .u64 (.ofNat 7),vI 1,vI 120]⟩,vI 119],.agg ⟨[.int .u64 (.ofNat 7),vI 1,vI 119]⟩⟩
theorem kAwake93:KAwake93.Ok Try.prog:=CF.of2 noNG mixed (l:=[]) .nil 3000 (by kernel_rfl)
def KAwake94:HF:=⟨131,[.agg wAwake3,.agg ⟨[.int .u64 (.ofNat 7),vI 1,vI 119]⟩,.agg ⟨[.int .u64 (.ofNat 7),vI 1,vI 120]⟩,vI 50],⟨[oAwake0,oAwake1,oAwake0,.cells wAwake3 false,oAwake29,.cells wAwake3 false,.dead,.dead,oAwake2,oAwake3,.dead,oAwake4,oAwake5,.dead,oAwake6,oAwake7,.dead,oAwake8,oAwake9,.cells wAwake4 false,.cells wAwake3 false,.cells wAwake3 false,.cells wAwake7 false,oAwake12,.cells ⟨[vJ 599,vI 1000]⟩ false,.cells ⟨[vJ 611,vI 637]⟩ false,.cells wAwake5 false,oAwake30,.cells wAwake3 false,oAwake30,.cells ⟨[vI 0,vI 0]⟩ false,.cells ⟨[vJ 999,vI 1000]⟩ false],28,[]⟩,.agg ⟨[vJ 2649,vI 2650]⟩,⟨[oAwake0,oAwake1,oAwake0,.cells wAwake3 false,oAwake31,.cells wAwake3 false,.dead,.dead,oAwake2,oAwake3,.dead,oAwake4,oAwake5,.dead,oAwake6,oAwake7,.dead,oAwake8,oAwake9,.cells wAwake4 false,.cells wAwake3 false,.cells wAwake3 false,.cells wAwake7 false,oAwake12,.cells ⟨[vJ 599,vI 1000]⟩ false,.cells ⟨[vJ 611,vI 637]⟩ false,.cells wAwake5 false,oAwake30,.cells wAwake3 false,oAwake30,.cells ⟨[vI 0,vI 0]⟩ false,.cells ⟨[vJ 999,vI 1000]⟩ false],28,[4]⟩⟩
theorem kAwake94:KAwake94.Ok Try.prog:=HF.of noNG mixed (hs:=[]) .nil (l:=[KAwake85,KAwake37]) (.cons kAwake85 (.cons kAwake37 .nil)) 3000 (by kernel_rfl)
def KAwake95:CF:=⟨132,[.agg ⟨[.int .u64 (.ofNat 7),vI 1,vI 120]⟩,vI 121],.agg ⟨[.int .u64 (.ofNat 7),vI 1,vI 121]⟩⟩
theorem kAwake95:KAwake95.Ok Try.prog:=CF.of2 noNG mixed (l:=[]) .nil 3000 (by kernel_rfl)
def KAwake96:HF:=⟨131,[.agg wAwake3,.agg ⟨[.int .u64 (.ofNat 7),vI 1,vI 120]⟩,.agg ⟨[.int .u64 (.ofNat 7),vI 1,vI 121]⟩,vI 0],⟨[oAwake0,oAwake1,oAwake0,.cells wAwake3 false,oAwake31,.cells wAwake3 false,.dead,.dead,oAwake2,oAwake3,.dead,oAwake4,oAwake5,.dead,oAwake6,oAwake7,.dead,oAwake8,oAwake9,.cells wAwake4 false,.cells wAwake3 false,.cells wAwake3 false,.cells wAwake7 false,oAwake12,.cells ⟨[vJ 599,vI 1000]⟩ false,.cells ⟨[vJ 611,vI 637]⟩ false,.cells wAwake5 false,oAwake30,.cells wAwake3 false,oAwake30,.cells ⟨[vI 0,vI 0]⟩ false,.cells ⟨[vJ 999,vI 1000]⟩ false],28,[4]⟩,.agg ⟨[vJ 2599,vI 2600]⟩,⟨[oAwake0,oAwake1,oAwake0,.cells wAwake3 false,oAwake32,.cells wAwake3 false,.dead,.dead,oAwake2,oAwake3,.dead,oAwake4,oAwake5,.dead,oAwake6,oAwake7,.dead,oAwake8,oAwake9,.cells wAwake4 false,.cells wAwake3 false,.cells wAwake3 false,.cells wAwake7 false,oAwake12,.cells ⟨[vJ 599,vI 1000]⟩ false,.cells ⟨[vJ 611,vI 637]⟩ false,.cells wAwake5 false,oAwake30,.cells wAwake3 false,oAwake30,.cells ⟨[vI 0,vI 0]⟩ false,.cells ⟨[vJ 999,vI 1000]⟩ false],28,[4,4]⟩⟩
theorem kAwake96:KAwake96.Ok Try.prog:=HF.of noNG mixed (hs:=[]) .nil (l:=[KAwake40,KAwake85]) (.cons kAwake40 (.cons kAwake85 .nil)) 3000 (by kernel_rfl)
def KAwake97:CF:=⟨132,[.agg ⟨[.int .u64 (.ofNat 7),vI 1,vI 120]⟩,vI 118],.agg ⟨[.int .u64 (.ofNat 7),vI 1,vI 118]⟩⟩
theorem kAwake97:KAwake97.Ok Try.prog:=CF.of2 noNG mixed (l:=[]) .nil 3000 (by kernel_rfl)
def KAwake98:HF:=⟨131,[.agg wAwake3,.agg ⟨[.int .u64 (.ofNat 7),vI 1,vI 118]⟩,.agg ⟨[.int .u64 (.ofNat 7),vI 1,vI 120]⟩,vI 150],⟨[oAwake0,oAwake1,oAwake0,.cells wAwake3 false,oAwake32,.cells wAwake3 false,.dead,.dead,oAwake2,oAwake3,.dead,oAwake4,oAwake5,.dead,oAwake6,oAwake7,.dead,oAwake8,oAwake9,.cells wAwake4 false,.cells wAwake3 false,.cells wAwake3 false,.cells wAwake7 false,oAwake12,.cells ⟨[vJ 599,vI 1000]⟩ false,.cells ⟨[vJ 611,vI 637]⟩ false,.cells wAwake5 false,oAwake30,.cells wAwake3 false,oAwake30,.cells ⟨[vI 0,vI 0]⟩ false,.cells ⟨[vJ 999,vI 1000]⟩ false],28,[4,4]⟩,.agg ⟨[vJ 1874,vI 1875]⟩,⟨[oAwake0,oAwake1,oAwake0,.cells wAwake3 false,oAwake33,.cells wAwake3 false,.dead,.dead,oAwake2,oAwake3,.dead,oAwake4,oAwake5,.dead,oAwake6,oAwake7,.dead,oAwake8,oAwake9,.cells wAwake4 false,.cells wAwake3 false,.cells wAwake3 false,.cells wAwake7 false,oAwake12,.cells ⟨[vJ 599,vI 1000]⟩ false,.cells ⟨[vJ 611,vI 637]⟩ false,.cells wAwake5 false,oAwake30,.cells wAwake3 false,oAwake30,.cells ⟨[vI 0,vI 0]⟩ false,.cells ⟨[vJ 999,vI 1000]⟩ false],28,[4,4,4]⟩⟩
theorem kAwake98:KAwake98.Ok Try.prog:=HF.of noNG mixed (hs:=[]) .nil (l:=[KAwake43,KAwake85]) (.cons kAwake43 (.cons kAwake85 .nil)) 3000 (by kernel_rfl)
def KAwake99:CF:=⟨132,[.agg ⟨[.int .u64 (.ofNat 7),vI 1,vI 120]⟩,vI 122],.agg ⟨[.int .u64 (.ofNat 7),vI 1,vI 122]⟩⟩
theorem kAwake99:KAwake99.Ok Try.prog:=CF.of2 noNG mixed (l:=[]) .nil 3000 (by kernel_rfl)
def KAwake100:HF:=⟨131,[.agg wAwake3,.agg ⟨[.int .u64 (.ofNat 7),vI 1,vI 120]⟩,.agg ⟨[.int .u64 (.ofNat 7),vI 1,vI 122]⟩,vI 50],⟨[oAwake0,oAwake1,oAwake0,.cells wAwake3 false,oAwake33,.cells wAwake3 false,.dead,.dead,oAwake2,oAwake3,.dead,oAwake4,oAwake5,.dead,oAwake6,oAwake7,.dead,oAwake8,oAwake9,.cells wAwake4 false,.cells wAwake3 false,.cells wAwake3 false,.cells wAwake7 false,oAwake12,.cells ⟨[vJ 599,vI 1000]⟩ false,.cells ⟨[vJ 611,vI 637]⟩ false,.cells wAwake5 false,oAwake30,.cells wAwake3 false,oAwake30,.cells ⟨[vI 0,vI 0]⟩ false,.cells ⟨[vJ 999,vI 1000]⟩ false],28,[4,4,4]⟩,.agg ⟨[vJ 1824,vI 1825]⟩,⟨[oAwake0,oAwake1,oAwake0,.cells wAwake3 false,oAwake34,.cells wAwake3 false,.dead,.dead,oAwake2,oAwake3,.dead,oAwake4,oAwake5,.dead,oAwake6,oAwake7,.dead,oAwake8,oAwake9,.cells wAwake4 false,.cells wAwake3 false,.cells wAwake3 false,.cells wAwake7 false,oAwake12,.cells ⟨[vJ 599,vI 1000]⟩ false,.cells ⟨[vJ 611,vI 637]⟩ false,.cells wAwake5 false,oAwake30,.cells wAwake3 false,oAwake30,.cells ⟨[vI 0,vI 0]⟩ false,.cells ⟨[vJ 999,vI 1000]⟩ false],28,[4,4,4,4]⟩⟩
theorem kAwake100:KAwake100.Ok Try.prog:=HF.of noNG mixed (hs:=[]) .nil (l:=[KAwake85,KAwake46]) (.cons kAwake85 (.cons kAwake46 .nil)) 3000 (by kernel_rfl)
def KAwake101:CF:=⟨132,[.agg ⟨[.int .u64 (.ofNat 7),vI 1,vI 120]⟩,vI 117],.agg ⟨[.int .u64 (.ofNat 7),vI 1,vI 117]⟩⟩
theorem kAwake101:KAwake101.Ok Try.prog:=CF.of2 noNG mixed (l:=[]) .nil 3000 (by kernel_rfl)
def KAwake102:HF:=⟨131,[.agg wAwake3,.agg ⟨[.int .u64 (.ofNat 7),vI 1,vI 117]⟩,.agg ⟨[.int .u64 (.ofNat 7),vI 1,vI 120]⟩,vI 300],⟨[oAwake0,oAwake1,oAwake0,.cells wAwake3 false,oAwake34,.cells wAwake3 false,.dead,.dead,oAwake2,oAwake3,.dead,oAwake4,oAwake5,.dead,oAwake6,oAwake7,.dead,oAwake8,oAwake9,.cells wAwake4 false,.cells wAwake3 false,.cells wAwake3 false,.cells wAwake7 false,oAwake12,.cells ⟨[vJ 599,vI 1000]⟩ false,.cells ⟨[vJ 611,vI 637]⟩ false,.cells wAwake5 false,oAwake30,.cells wAwake3 false,oAwake30,.cells ⟨[vI 0,vI 0]⟩ false,.cells ⟨[vJ 999,vI 1000]⟩ false],28,[4,4,4,4]⟩,.agg ⟨[vJ 1632,vI 1633]⟩,⟨[oAwake0,oAwake1,oAwake0,.cells wAwake3 false,oAwake35,.cells wAwake3 false,.dead,.dead,oAwake2,oAwake3,.dead,oAwake4,oAwake5,.dead,oAwake6,oAwake7,.dead,oAwake8,oAwake9,.cells wAwake4 false,.cells wAwake3 false,.cells wAwake3 false,.cells wAwake7 false,oAwake12,.cells ⟨[vJ 599,vI 1000]⟩ false,.cells ⟨[vJ 611,vI 637]⟩ false,.cells wAwake5 false,oAwake30,.cells wAwake3 false,oAwake30,.cells ⟨[vI 0,vI 0]⟩ false,.cells ⟨[vJ 999,vI 1000]⟩ false],28,[4,4,4,4,4]⟩⟩
theorem kAwake102:KAwake102.Ok Try.prog:=HF.of noNG mixed (hs:=[]) .nil (l:=[KAwake49,KAwake85]) (.cons kAwake49 (.cons kAwake85 .nil)) 3000 (by kernel_rfl)
def KAwake103:CF:=⟨132,[.agg ⟨[.int .u64 (.ofNat 7),vI 1,vI 120]⟩,vI 123],.agg ⟨[.int .u64 (.ofNat 7),vI 1,vI 123]⟩⟩
theorem kAwake103:KAwake103.Ok Try.prog:=CF.of2 noNG mixed (l:=[]) .nil 3000 (by kernel_rfl)
def KAwake104:HF:=⟨131,[.agg wAwake3,.agg ⟨[.int .u64 (.ofNat 7),vI 1,vI 120]⟩,.agg ⟨[.int .u64 (.ofNat 7),vI 1,vI 123]⟩,vI 150],⟨[oAwake0,oAwake1,oAwake0,.cells wAwake3 false,oAwake35,.cells wAwake3 false,.dead,.dead,oAwake2,oAwake3,.dead,oAwake4,oAwake5,.dead,oAwake6,oAwake7,.dead,oAwake8,oAwake9,.cells wAwake4 false,.cells wAwake3 false,.cells wAwake3 false,.cells wAwake7 false,oAwake12,.cells ⟨[vJ 599,vI 1000]⟩ false,.cells ⟨[vJ 611,vI 637]⟩ false,.cells wAwake5 false,oAwake30,.cells wAwake3 false,oAwake30,.cells ⟨[vI 0,vI 0]⟩ false,.cells ⟨[vJ 999,vI 1000]⟩ false],28,[4,4,4,4,4]⟩,.agg ⟨[vJ 1582,vI 1583]⟩,⟨[oAwake0,oAwake1,oAwake0,.cells wAwake3 false,oAwake36,.cells wAwake3 false,.dead,.dead,oAwake2,oAwake3,.dead,oAwake4,oAwake5,.dead,oAwake6,oAwake7,.dead,oAwake8,oAwake9,.cells wAwake4 false,.cells wAwake3 false,.cells wAwake3 false,.cells wAwake7 false,oAwake12,.cells ⟨[vJ 599,vI 1000]⟩ false,.cells ⟨[vJ 611,vI 637]⟩ false,.cells wAwake5 false,oAwake30,.cells wAwake3 false,oAwake30,.cells ⟨[vI 0,vI 0]⟩ false,.cells ⟨[vJ 999,vI 1000]⟩ false],28,[4,4,4,4,4,4]⟩⟩
theorem kAwake104:KAwake104.Ok Try.prog:=HF.of noNG mixed (hs:=[]) .nil (l:=[KAwake52,KAwake85]) (.cons kAwake52 (.cons kAwake85 .nil)) 3000 (by kernel_rfl)
def KAwake105:CF:=⟨132,[.agg ⟨[.int .u64 (.ofNat 7),vI 1,vI 120]⟩,vI 116],.agg ⟨[.int .u64 (.ofNat 7),vI 1,vI 116]⟩⟩
theorem kAwake105:KAwake105.Ok Try.prog:=CF.of2 noNG mixed (l:=[]) .nil 3000 (by kernel_rfl)
def KAwake106:HF:=⟨131,[.agg wAwake3,.agg ⟨[.int .u64 (.ofNat 7),vI 1,vI 116]⟩,.agg ⟨[.int .u64 (.ofNat 7),vI 1,vI 120]⟩,vI 500],⟨[oAwake0,oAwake1,oAwake0,.cells wAwake3 false,oAwake36,.cells wAwake3 false,.dead,.dead,oAwake2,oAwake3,.dead,oAwake4,oAwake5,.dead,oAwake6,oAwake7,.dead,oAwake8,oAwake9,.cells wAwake4 false,.cells wAwake3 false,.cells wAwake3 false,.cells wAwake7 false,oAwake12,.cells ⟨[vJ 599,vI 1000]⟩ false,.cells ⟨[vJ 611,vI 637]⟩ false,.cells wAwake5 false,oAwake30,.cells wAwake3 false,oAwake30,.cells ⟨[vI 0,vI 0]⟩ false,.cells ⟨[vJ 999,vI 1000]⟩ false],28,[4,4,4,4,4,4]⟩,.agg ⟨[vJ 1524,vI 1525]⟩,⟨[oAwake0,oAwake1,oAwake0,.cells wAwake3 false,oAwake37,.cells wAwake3 false,.dead,.dead,oAwake2,oAwake3,.dead,oAwake4,oAwake5,.dead,oAwake6,oAwake7,.dead,oAwake8,oAwake9,.cells wAwake4 false,.cells wAwake3 false,.cells wAwake3 false,.cells wAwake7 false,oAwake12,.cells ⟨[vJ 599,vI 1000]⟩ false,.cells ⟨[vJ 611,vI 637]⟩ false,.cells wAwake5 false,oAwake30,.cells wAwake3 false,oAwake30,.cells ⟨[vI 0,vI 0]⟩ false,.cells ⟨[vJ 999,vI 1000]⟩ false],28,[4,4,4,4,4,4,4]⟩⟩
theorem kAwake106:KAwake106.Ok Try.prog:=HF.of noNG mixed (hs:=[]) .nil (l:=[KAwake85,KAwake55]) (.cons kAwake85 (.cons kAwake55 .nil)) 3000 (by kernel_rfl)
def KAwake107:CF:=⟨132,[.agg ⟨[.int .u64 (.ofNat 7),vI 1,vI 120]⟩,vI 124],.agg ⟨[.int .u64 (.ofNat 7),vI 1,vI 124]⟩⟩
theorem kAwake107:KAwake107.Ok Try.prog:=CF.of2 noNG mixed (l:=[]) .nil 3000 (by kernel_rfl)
def KAwake108:HF:=⟨131,[.agg wAwake3,.agg ⟨[.int .u64 (.ofNat 7),vI 1,vI 120]⟩,.agg ⟨[.int .u64 (.ofNat 7),vI 1,vI 124]⟩,vI 300],⟨[oAwake0,oAwake1,oAwake0,.cells wAwake3 false,oAwake37,.cells wAwake3 false,.dead,.dead,oAwake2,oAwake3,.dead,oAwake4,oAwake5,.dead,oAwake6,oAwake7,.dead,oAwake8,oAwake9,.cells wAwake4 false,.cells wAwake3 false,.cells wAwake3 false,.cells wAwake7 false,oAwake12,.cells ⟨[vJ 599,vI 1000]⟩ false,.cells ⟨[vJ 611,vI 637]⟩ false,.cells wAwake5 false,oAwake30,.cells wAwake3 false,oAwake30,.cells ⟨[vI 0,vI 0]⟩ false,.cells ⟨[vJ 999,vI 1000]⟩ false],28,[4,4,4,4,4,4,4]⟩,.agg ⟨[vJ 1474,vI 1475]⟩,⟨[oAwake0,oAwake1,oAwake0,.cells wAwake3 false,oAwake38,.cells wAwake3 false,.dead,.dead,oAwake2,oAwake3,.dead,oAwake4,oAwake5,.dead,oAwake6,oAwake7,.dead,oAwake8,oAwake9,.cells wAwake4 false,.cells wAwake3 false,.cells wAwake3 false,.cells wAwake7 false,oAwake12,.cells ⟨[vJ 599,vI 1000]⟩ false,.cells ⟨[vJ 611,vI 637]⟩ false,.cells wAwake5 false,oAwake30,.cells wAwake3 false,oAwake30,.cells ⟨[vI 0,vI 0]⟩ false,.cells ⟨[vJ 999,vI 1000]⟩ false],28,[4,4,4,4,4,4,4,4]⟩⟩
theorem kAwake108:KAwake108.Ok Try.prog:=HF.of noNG mixed (hs:=[]) .nil (l:=[KAwake58,KAwake85]) (.cons kAwake58 (.cons kAwake85 .nil)) 3000 (by kernel_rfl)
def KAwake109:CF:=⟨132,[.agg ⟨[.int .u64 (.ofNat 7),vI 1,vI 120]⟩,vI 115],.agg ⟨[.int .u64 (.ofNat 7),vI 1,vI 115]⟩⟩
theorem kAwake109:KAwake109.Ok Try.prog:=CF.of2 noNG mixed (l:=[]) .nil 3000 (by kernel_rfl)
def KAwake110:HF:=⟨131,[.agg wAwake3,.agg ⟨[.int .u64 (.ofNat 7),vI 1,vI 115]⟩,.agg ⟨[.int .u64 (.ofNat 7),vI 1,vI 120]⟩,vI 750],⟨[oAwake0,oAwake1,oAwake0,.cells wAwake3 false,oAwake38,.cells wAwake3 false,.dead,.dead,oAwake2,oAwake3,.dead,oAwake4,oAwake5,.dead,oAwake6,oAwake7,.dead,oAwake8,oAwake9,.cells wAwake4 false,.cells wAwake3 false,.cells wAwake3 false,.cells wAwake7 false,oAwake12,.cells ⟨[vJ 599,vI 1000]⟩ false,.cells ⟨[vJ 611,vI 637]⟩ false,.cells wAwake5 false,oAwake30,.cells wAwake3 false,oAwake30,.cells ⟨[vI 0,vI 0]⟩ false,.cells ⟨[vJ 999,vI 1000]⟩ false],28,[4,4,4,4,4,4,4,4]⟩,.agg ⟨[vJ 1469,vI 1470]⟩,⟨[oAwake0,oAwake1,oAwake0,.cells wAwake3 false,oAwake39,.cells wAwake3 false,.dead,.dead,oAwake2,oAwake3,.dead,oAwake4,oAwake5,.dead,oAwake6,oAwake7,.dead,oAwake8,oAwake9,.cells wAwake4 false,.cells wAwake3 false,.cells wAwake3 false,.cells wAwake7 false,oAwake12,.cells ⟨[vJ 599,vI 1000]⟩ false,.cells ⟨[vJ 611,vI 637]⟩ false,.cells wAwake5 false,oAwake30,.cells wAwake3 false,oAwake30,.cells ⟨[vI 0,vI 0]⟩ false,.cells ⟨[vJ 999,vI 1000]⟩ false],28,[4,4,4,4,4,4,4,4,4]⟩⟩
theorem kAwake110:KAwake110.Ok Try.prog:=HF.of noNG mixed (hs:=[]) .nil (l:=[KAwake85,KAwake61]) (.cons kAwake85 (.cons kAwake61 .nil)) 3000 (by kernel_rfl)
def KAwake111:CF:=⟨132,[.agg ⟨[.int .u64 (.ofNat 7),vI 1,vI 120]⟩,vI 125],.agg ⟨[.int .u64 (.ofNat 7),vI 1,vI 125]⟩⟩
theorem kAwake111:KAwake111.Ok Try.prog:=CF.of2 noNG mixed (l:=[]) .nil 3000 (by kernel_rfl)
def KAwake112:HF:=⟨131,[.agg wAwake3,.agg ⟨[.int .u64 (.ofNat 7),vI 1,vI 120]⟩,.agg ⟨[.int .u64 (.ofNat 7),vI 1,vI 125]⟩,vI 500],⟨[oAwake0,oAwake1,oAwake0,.cells wAwake3 false,oAwake39,.cells wAwake3 false,.dead,.dead,oAwake2,oAwake3,.dead,oAwake4,oAwake5,.dead,oAwake6,oAwake7,.dead,oAwake8,oAwake9,.cells wAwake4 false,.cells wAwake3 false,.cells wAwake3 false,.cells wAwake7 false,oAwake12,.cells ⟨[vJ 599,vI 1000]⟩ false,.cells ⟨[vJ 611,vI 637]⟩ false,.cells wAwake5 false,oAwake30,.cells wAwake3 false,oAwake30,.cells ⟨[vI 0,vI 0]⟩ false,.cells ⟨[vJ 999,vI 1000]⟩ false],28,[4,4,4,4,4,4,4,4,4]⟩,.agg ⟨[vJ 1399,vI 1420]⟩,⟨[oAwake0,oAwake1,oAwake0,.cells wAwake3 false,oAwake40,.cells wAwake3 false,.dead,.dead,oAwake2,oAwake3,.dead,oAwake4,oAwake5,.dead,oAwake6,oAwake7,.dead,oAwake8,oAwake9,.cells wAwake4 false,.cells wAwake3 false,.cells wAwake3 false,.cells wAwake7 false,oAwake12,.cells ⟨[vJ 599,vI 1000]⟩ false,.cells ⟨[vJ 611,vI 637]⟩ false,.cells wAwake5 false,oAwake30,.cells wAwake3 false,oAwake30,.cells ⟨[vI 0,vI 0]⟩ false,.cells ⟨[vJ 999,vI 1000]⟩ false],28,[4,4,4,4,4,4,4,4,4,4]⟩⟩
theorem kAwake112:KAwake112.Ok Try.prog:=HF.of noNG mixed (hs:=[]) .nil (l:=[KAwake64,KAwake85]) (.cons kAwake64 (.cons kAwake85 .nil)) 3000 (by kernel_rfl)
def KAwake113:CF:=⟨132,[.agg ⟨[.int .u64 (.ofNat 7),vI 1,vI 120]⟩,vI 114],.agg ⟨[.int .u64 (.ofNat 7),vI 1,vI 114]⟩⟩
theorem kAwake113:KAwake113.Ok Try.prog:=CF.of2 noNG mixed (l:=[]) .nil 3000 (by kernel_rfl)
def KAwake114:HF:=⟨131,[.agg wAwake3,.agg ⟨[.int .u64 (.ofNat 7),vI 1,vI 114]⟩,.agg ⟨[.int .u64 (.ofNat 7),vI 1,vI 120]⟩,vI 1050],⟨[oAwake0,oAwake1,oAwake0,.cells wAwake3 false,oAwake40,.cells wAwake3 false,.dead,.dead,oAwake2,oAwake3,.dead,oAwake4,oAwake5,.dead,oAwake6,oAwake7,.dead,oAwake8,oAwake9,.cells wAwake4 false,.cells wAwake3 false,.cells wAwake3 false,.cells wAwake7 false,oAwake12,.cells ⟨[vJ 599,vI 1000]⟩ false,.cells ⟨[vJ 611,vI 637]⟩ false,.cells wAwake5 false,oAwake30,.cells wAwake3 false,oAwake30,.cells ⟨[vI 0,vI 0]⟩ false,.cells ⟨[vJ 999,vI 1000]⟩ false],28,[4,4,4,4,4,4,4,4,4,4]⟩,.agg ⟨[vJ 1165,vI 1200]⟩,⟨[oAwake0,oAwake1,oAwake0,.cells wAwake3 false,oAwake41,.cells wAwake3 false,.dead,.dead,oAwake2,oAwake3,.dead,oAwake4,oAwake5,.dead,oAwake6,oAwake7,.dead,oAwake8,oAwake9,.cells wAwake4 false,.cells wAwake3 false,.cells wAwake3 false,.cells wAwake7 false,oAwake12,.cells ⟨[vJ 599,vI 1000]⟩ false,.cells ⟨[vJ 611,vI 637]⟩ false,.cells wAwake5 false,oAwake30,.cells wAwake3 false,oAwake30,.cells ⟨[vI 0,vI 0]⟩ false,.cells ⟨[vJ 999,vI 1000]⟩ false],28,[4,4,4,4,4,4,4,4,4,4,4]⟩⟩
theorem kAwake114:KAwake114.Ok Try.prog:=HF.of noNG mixed (hs:=[]) .nil (l:=[KAwake67,KAwake85]) (.cons kAwake67 (.cons kAwake85 .nil)) 3000 (by kernel_rfl)
def KAwake115:CF:=⟨132,[.agg ⟨[.int .u64 (.ofNat 7),vI 1,vI 120]⟩,vI 126],.agg ⟨[.int .u64 (.ofNat 7),vI 1,vI 126]⟩⟩
theorem kAwake115:KAwake115.Ok Try.prog:=CF.of2 noNG mixed (l:=[]) .nil 3000 (by kernel_rfl)
def KAwake116:HF:=⟨131,[.agg wAwake3,.agg ⟨[.int .u64 (.ofNat 7),vI 1,vI 120]⟩,.agg ⟨[.int .u64 (.ofNat 7),vI 1,vI 126]⟩,vI 750],⟨[oAwake0,oAwake1,oAwake0,.cells wAwake3 false,oAwake41,.cells wAwake3 false,.dead,.dead,oAwake2,oAwake3,.dead,oAwake4,oAwake5,.dead,oAwake6,oAwake7,.dead,oAwake8,oAwake9,.cells wAwake4 false,.cells wAwake3 false,.cells wAwake3 false,.cells wAwake7 false,oAwake12,.cells ⟨[vJ 599,vI 1000]⟩ false,.cells ⟨[vJ 611,vI 637]⟩ false,.cells wAwake5 false,oAwake30,.cells wAwake3 false,oAwake30,.cells ⟨[vI 0,vI 0]⟩ false,.cells ⟨[vJ 999,vI 1000]⟩ false],28,[4,4,4,4,4,4,4,4,4,4,4]⟩,.agg ⟨[vJ 1040,vI 1075]⟩,⟨[oAwake0,oAwake1,oAwake0,.cells wAwake3 false,oAwake42,.cells wAwake3 false,.dead,.dead,oAwake2,oAwake3,.dead,oAwake4,oAwake5,.dead,oAwake6,oAwake7,.dead,oAwake8,oAwake9,.cells wAwake4 false,.cells wAwake3 false,.cells wAwake3 false,.cells wAwake7 false,oAwake12,.cells ⟨[vJ 599,vI 1000]⟩ false,.cells ⟨[vJ 611,vI 637]⟩ false,.cells wAwake5 false,oAwake30,.cells wAwake3 false,oAwake30,.cells ⟨[vI 0,vI 0]⟩ false,.cells ⟨[vJ 999,vI 1000]⟩ false],28,[4,4,4,4,4,4,4,4,4,4,4,4]⟩⟩
theorem kAwake116:KAwake116.Ok Try.prog:=HF.of noNG mixed (hs:=[]) .nil (l:=[KAwake85,KAwake70]) (.cons kAwake85 (.cons kAwake70 .nil)) 3000 (by kernel_rfl)
def KAwake117:CF:=⟨132,[.agg ⟨[.int .u64 (.ofNat 7),vI 1,vI 120]⟩,vI 113],.agg ⟨[.int .u64 (.ofNat 7),vI 1,vI 113]⟩⟩
theorem kAwake117:KAwake117.Ok Try.prog:=CF.of2 noNG mixed (l:=[]) .nil 3000 (by kernel_rfl)
def KAwake118:HF:=⟨131,[.agg wAwake3,.agg ⟨[.int .u64 (.ofNat 7),vI 1,vI 113]⟩,.agg ⟨[.int .u64 (.ofNat 7),vI 1,vI 120]⟩,vI 1400],⟨[oAwake0,oAwake1,oAwake0,.cells wAwake3 false,oAwake42,.cells wAwake3 false,.dead,.dead,oAwake2,oAwake3,.dead,oAwake4,oAwake5,.dead,oAwake6,oAwake7,.dead,oAwake8,oAwake9,.cells wAwake4 false,.cells wAwake3 false,.cells wAwake3 false,.cells wAwake7 false,oAwake12,.cells ⟨[vJ 599,vI 1000]⟩ false,.cells ⟨[vJ 611,vI 637]⟩ false,.cells wAwake5 false,oAwake30,.cells wAwake3 false,oAwake30,.cells ⟨[vI 0,vI 0]⟩ false,.cells ⟨[vJ 999,vI 1000]⟩ false],28,[4,4,4,4,4,4,4,4,4,4,4,4]⟩,.agg ⟨[vJ 949,vI 978]⟩,⟨[oAwake0,oAwake1,oAwake0,.cells wAwake3 false,oAwake43,.cells wAwake3 false,.dead,.dead,oAwake2,oAwake3,.dead,oAwake4,oAwake5,.dead,oAwake6,oAwake7,.dead,oAwake8,oAwake9,.cells wAwake4 false,.cells wAwake3 false,.cells wAwake3 false,.cells wAwake7 false,oAwake12,.cells ⟨[vJ 599,vI 1000]⟩ false,.cells ⟨[vJ 611,vI 637]⟩ false,.cells wAwake5 false,oAwake30,.cells wAwake3 false,oAwake30,.cells ⟨[vI 0,vI 0]⟩ false,.cells ⟨[vJ 999,vI 1000]⟩ false],28,[4,4,4,4,4,4,4,4,4,4,4,4,4]⟩⟩
theorem kAwake118:KAwake118.Ok Try.prog:=HF.of noNG mixed (hs:=[]) .nil (l:=[KAwake73,KAwake85]) (.cons kAwake73 (.cons kAwake85 .nil)) 3000 (by kernel_rfl)
def KAwake119:CF:=⟨132,[.agg ⟨[.int .u64 (.ofNat 7),vI 1,vI 120]⟩,vI 127],.agg ⟨[.int .u64 (.ofNat 7),vI 1,vI 127]⟩⟩
theorem kAwake119:KAwake119.Ok Try.prog:=CF.of2 noNG mixed (l:=[]) .nil 3000 (by kernel_rfl)
def KAwake120:HF:=⟨131,[.agg wAwake3,.agg ⟨[.int .u64 (.ofNat 7),vI 1,vI 120]⟩,.agg ⟨[.int .u64 (.ofNat 7),vI 1,vI 127]⟩,vI 1050],⟨[oAwake0,oAwake1,oAwake0,.cells wAwake3 false,oAwake43,.cells wAwake3 false,.dead,.dead,oAwake2,oAwake3,.dead,oAwake4,oAwake5,.dead,oAwake6,oAwake7,.dead,oAwake8,oAwake9,.cells wAwake4 false,.cells wAwake3 false,.cells wAwake3 false,.cells wAwake7 false,oAwake12,.cells ⟨[vJ 599,vI 1000]⟩ false,.cells ⟨[vJ 611,vI 637]⟩ false,.cells wAwake5 false,oAwake30,.cells wAwake3 false,oAwake30,.cells ⟨[vI 0,vI 0]⟩ false,.cells ⟨[vJ 949,vI 978]⟩ false],28,[4,4,4,4,4,4,4,4,4,4,4,4,4]⟩,.agg ⟨[vJ 791,vI 821]⟩,⟨[oAwake0,oAwake1,oAwake0,.cells wAwake3 false,oAwake44,.cells wAwake3 false,.dead,.dead,oAwake2,oAwake3,.dead,oAwake4,oAwake5,.dead,oAwake6,oAwake7,.dead,oAwake8,oAwake9,.cells wAwake4 false,.cells wAwake3 false,.cells wAwake3 false,.cells wAwake7 false,oAwake12,.cells ⟨[vJ 599,vI 1000]⟩ false,.cells ⟨[vJ 611,vI 637]⟩ false,.cells wAwake5 false,oAwake30,.cells wAwake3 false,oAwake30,.cells ⟨[vI 0,vI 0]⟩ false,.cells ⟨[vJ 949,vI 978]⟩ false],28,[4,4,4,4,4,4,4,4,4,4,4,4,4,4]⟩⟩
theorem kAwake120:KAwake120.Ok Try.prog:=HF.of noNG mixed (hs:=[]) .nil (l:=[KAwake76,KAwake85]) (.cons kAwake76 (.cons kAwake85 .nil)) 3000 (by kernel_rfl)
def KAwake121:CF:=⟨132,[.agg ⟨[.int .u64 (.ofNat 7),vI 1,vI 120]⟩,vI 112],.agg ⟨[.int .u64 (.ofNat 7),vI 1,vI 112]⟩⟩
theorem kAwake121:KAwake121.Ok Try.prog:=CF.of2 noNG mixed (l:=[]) .nil 3000 (by kernel_rfl)
def KAwake122:HF:=⟨131,[.agg wAwake3,.agg ⟨[.int .u64 (.ofNat 7),vI 1,vI 112]⟩,.agg ⟨[.int .u64 (.ofNat 7),vI 1,vI 120]⟩,vI 1800],⟨[oAwake0,oAwake1,oAwake0,.cells wAwake3 false,oAwake44,.cells wAwake3 false,.dead,.dead,oAwake2,oAwake3,.dead,oAwake4,oAwake5,.dead,oAwake6,oAwake7,.dead,oAwake8,oAwake9,.cells wAwake4 false,.cells wAwake3 false,.cells wAwake3 false,.cells wAwake7 false,oAwake12,.cells ⟨[vJ 599,vI 1000]⟩ false,.cells ⟨[vJ 611,vI 637]⟩ false,.cells wAwake5 false,oAwake30,.cells wAwake3 false,oAwake30,.cells ⟨[vI 0,vI 0]⟩ false,.cells ⟨[vJ 791,vI 821]⟩ false],28,[4,4,4,4,4,4,4,4,4,4,4,4,4,4]⟩,.agg ⟨[vJ 799,vI 825]⟩,⟨[oAwake0,oAwake1,oAwake0,.cells wAwake3 false,oAwake45,.cells wAwake3 false,.dead,.dead,oAwake2,oAwake3,.dead,oAwake4,oAwake5,.dead,oAwake6,oAwake7,.dead,oAwake8,oAwake9,.cells wAwake4 false,.cells wAwake3 false,.cells wAwake3 false,.cells wAwake7 false,oAwake12,.cells ⟨[vJ 599,vI 1000]⟩ false,.cells ⟨[vJ 611,vI 637]⟩ false,.cells wAwake5 false,oAwake30,.cells wAwake3 false,oAwake30,.cells ⟨[vI 0,vI 0]⟩ false,.cells ⟨[vJ 791,vI 821]⟩ false],28,[4,4,4,4,4,4,4,4,4,4,4,4,4,4,4]⟩⟩
theorem kAwake122:KAwake122.Ok Try.prog:=HF.of noNG mixed (hs:=[]) .nil (l:=[KAwake85,KAwake79]) (.cons kAwake85 (.cons kAwake79 .nil)) 3000 (by kernel_rfl)
def KAwake123:CF:=⟨132,[.agg ⟨[.int .u64 (.ofNat 7),vI 1,vI 120]⟩,vI 128],.agg ⟨[.int .u64 (.ofNat 7),vI 1,vI 128]⟩⟩
theorem kAwake123:KAwake123.Ok Try.prog:=CF.of2 noNG mixed (l:=[]) .nil 3000 (by kernel_rfl)
def KAwake124:HF:=⟨131,[.agg wAwake3,.agg ⟨[.int .u64 (.ofNat 7),vI 1,vI 120]⟩,.agg ⟨[.int .u64 (.ofNat 7),vI 1,vI 128]⟩,vI 1400],⟨[oAwake0,oAwake1,oAwake0,.cells wAwake3 false,oAwake45,.cells wAwake3 false,.dead,.dead,oAwake2,oAwake3,.dead,oAwake4,oAwake5,.dead,oAwake6,oAwake7,.dead,oAwake8,oAwake9,.cells wAwake4 false,.cells wAwake3 false,.cells wAwake3 false,.cells wAwake7 false,oAwake12,.cells ⟨[vJ 599,vI 1000]⟩ false,.cells ⟨[vJ 611,vI 637]⟩ false,.cells wAwake5 false,oAwake30,.cells wAwake3 false,oAwake30,.cells ⟨[vI 0,vI 0]⟩ false,.cells ⟨[vJ 791,vI 821]⟩ false],28,[4,4,4,4,4,4,4,4,4,4,4,4,4,4,4]⟩,.agg ⟨[vJ 611,vI 637]⟩,⟨[oAwake0,oAwake1,oAwake0,.cells wAwake3 false,oAwake46,.cells wAwake3 false,.dead,.dead,oAwake2,oAwake3,.dead,oAwake4,oAwake5,.dead,oAwake6,oAwake7,.dead,oAwake8,oAwake9,.cells wAwake4 false,.cells wAwake3 false,.cells wAwake3 false,.cells wAwake7 false,oAwake12,.cells ⟨[vJ 599,vI 1000]⟩ false,.cells ⟨[vJ 611,vI 637]⟩ false,.cells wAwake5 false,oAwake30,.cells wAwake3 false,oAwake30,.cells ⟨[vI 0,vI 0]⟩ false,.cells ⟨[vJ 791,vI 821]⟩ false],28,[4,4,4,4,4,4,4,4,4,4,4,4,4,4,4,4]⟩⟩
theorem kAwake124:KAwake124.Ok Try.prog:=HF.of noNG mixed (hs:=[]) .nil (l:=[KAwake82,KAwake85]) (.cons kAwake82 (.cons kAwake85 .nil)) 3000 (by kernel_rfl)
def KAwake125:HF:=⟨104,[.agg wAwake3,.agg ⟨[.int .u64 (.ofNat 7),vI 1,vI 120]⟩],⟨[oAwake0,oAwake1,oAwake0,.cells wAwake3 false,oAwake29,.cells wAwake3 false,.dead,.dead,oAwake2,oAwake3,.dead,oAwake4,oAwake5,.dead,oAwake6,oAwake7,.dead,oAwake8,oAwake9,.cells wAwake4 false,.cells wAwake3 false,.cells wAwake3 false,.cells wAwake7 false,oAwake12,.cells ⟨[vJ 599,vI 1000]⟩ false,.cells ⟨[vJ 611,vI 637]⟩ false,.cells wAwake5 false,oAwake30],21,[4,4,4,4,4,4,4,4,4,4,4,4,4,4,4,4,4,4]⟩,.agg ⟨[vJ 611,vI 637]⟩,⟨[oAwake0,oAwake1,oAwake0,.cells wAwake3 false,oAwake46,.cells wAwake3 false,.dead,.dead,oAwake2,oAwake3,.dead,oAwake4,oAwake5,.dead,oAwake6,oAwake7,.dead,oAwake8,oAwake9,.cells wAwake4 false,.cells wAwake3 false,.cells wAwake3 false,.cells wAwake7 false,oAwake12,.cells ⟨[vJ 599,vI 1000]⟩ false,.cells ⟨[vJ 611,vI 637]⟩ false,.cells wAwake5 false,oAwake30],21,[4,4,4,4,4,4,4,4,4,4,4,4,4,4,4,4,4,4,4,4,4,4,4,4,4,4,4,4,4,4,4,4,4,4]⟩⟩
theorem kAwake125:KAwake125.Ok Try.prog:=HF.of noNG mixed (hs:=[KAwake94,KAwake96,KAwake98,KAwake100,KAwake102,KAwake104,KAwake106,KAwake108,KAwake110,KAwake112,KAwake114,KAwake116,KAwake118,KAwake120,KAwake122,KAwake124]) (.cons kAwake94 (.cons kAwake96 (.cons kAwake98 (.cons kAwake100 (.cons kAwake102 (.cons kAwake104 (.cons kAwake106 (.cons kAwake108 (.cons kAwake110 (.cons kAwake112 (.cons kAwake114 (.cons kAwake116 (.cons kAwake118 (.cons kAwake120 (.cons kAwake122 (.cons kAwake124 .nil)))))))))))))))) (l:=[KAwake35,KAwake93,KAwake95,KAwake97,KAwake99,KAwake101,KAwake103,KAwake105,KAwake107,KAwake109,KAwake111,KAwake113,KAwake115,KAwake117,KAwake119,KAwake121,KAwake123]) (.cons kAwake35 (.cons kAwake93 (.cons kAwake95 (.cons kAwake97 (.cons kAwake99 (.cons kAwake101 (.cons kAwake103 (.cons kAwake105 (.cons kAwake107 (.cons kAwake109 (.cons kAwake111 (.cons kAwake113 (.cons kAwake115 (.cons kAwake117 (.cons kAwake119 (.cons kAwake121 (.cons kAwake123 .nil))))))))))))))))) 3000 (by kernel_rfl)
def KAwake126:CF:=⟨87,[vI 2],.agg wAwake8⟩
theorem kAwake126:KAwake126.Ok Try.prog:=CF.of2 noNG mixed (l:=[]) .nil 3000 (by kernel_rfl)
def KAwake127:CF:=⟨120,[.agg ⟨[vI 0,vI 120,vI 0,vI 0,vI 10000]⟩],vI 10000⟩
theorem kAwake127:KAwake127.Ok Try.prog:=CF.of2 noNG mixed (l:=[]) .nil 3000 (by kernel_rfl)
def KAwake128:CF:=⟨124,[vI 10000,vI 3500],.agg ⟨[vI 6500,vI 13500]⟩⟩
theorem kAwake128:KAwake128.Ok Try.prog:=CF.of2 noNG mixed (l:=[]) .nil 3000 (by kernel_rfl)
def KAwake129:CF:=⟨120,[.agg ⟨[vI 1,vI 120,vI 1000,vI 0,vI 8000]⟩],vI 8000⟩
theorem kAwake129:KAwake129.Ok Try.prog:=CF.of2 noNG mixed (l:=[]) .nil 3000 (by kernel_rfl)
def KAwake130:CF:=⟨124,[vI 8000,vI 4000],.agg ⟨[vI 4000,vI 12000]⟩⟩
theorem kAwake130:KAwake130.Ok Try.prog:=CF.of2 noNG mixed (l:=[]) .nil 3000 (by kernel_rfl)
def KAwake131:CF:=⟨120,[.agg ⟨[vI 2,vI 120,vI 200,vI 100,vI 9500]⟩],vI 9500⟩
theorem kAwake131:KAwake131.Ok Try.prog:=CF.of2 noNG mixed (l:=[]) .nil 3000 (by kernel_rfl)
def KAwake132:CF:=⟨124,[vI 9500,vI 800],.agg ⟨[vI 8700,vI 10300]⟩⟩
theorem kAwake132:KAwake132.Ok Try.prog:=CF.of2 noNG mixed (l:=[]) .nil 3000 (by kernel_rfl)
def KAwake133:CF:=⟨120,[.agg ⟨[vI 2,vI 130,vI 300,vI 200,vI 19000]⟩],vI 19000⟩
theorem kAwake133:KAwake133.Ok Try.prog:=CF.of2 noNG mixed (l:=[]) .nil 3000 (by kernel_rfl)
def KAwake134:CF:=⟨124,[vI 19000,vI 10800],.agg ⟨[vI 8200,vI 29800]⟩⟩
theorem kAwake134:KAwake134.Ok Try.prog:=CF.of2 noNG mixed (l:=[]) .nil 3000 (by kernel_rfl)
def KAwake135:CF:=⟨132,[.agg ⟨[.int .u64 (.ofNat 7),vI 2,vI 120]⟩,vI 119],.agg ⟨[.int .u64 (.ofNat 7),vI 2,vI 119]⟩⟩
theorem kAwake135:KAwake135.Ok Try.prog:=CF.of2 noNG mixed (l:=[]) .nil 3000 (by kernel_rfl)
def KAwake136:HF:=⟨131,[.agg wAwake3,.agg ⟨[.int .u64 (.ofNat 7),vI 2,vI 119]⟩,.agg ⟨[.int .u64 (.ofNat 7),vI 2,vI 120]⟩,vI 50],⟨[oAwake0,oAwake1,oAwake0,.cells wAwake3 false,oAwake47,.cells wAwake3 false,.dead,.dead,oAwake2,oAwake3,.dead,oAwake4,oAwake5,.dead,oAwake6,oAwake7,.dead,oAwake8,oAwake9,.cells wAwake4 false,.cells wAwake3 false,.cells wAwake3 false,.cells wAwake9 false,oAwake12,.cells ⟨[vJ 599,vI 1000]⟩ false,.cells ⟨[vJ 611,vI 637]⟩ false,.cells wAwake5 false,oAwake30,.cells ⟨[vJ 699,vI 900]⟩ false,.cells ⟨[vJ 611,vI 637]⟩ false,.cells wAwake6 false,oAwake48,.cells wAwake3 false,oAwake48,.cells ⟨[vI 0,vI 0]⟩ false,.cells ⟨[vJ 999,vI 1000]⟩ false],32,[]⟩,.agg ⟨[vJ 849,vI 2650]⟩,⟨[oAwake0,oAwake1,oAwake0,.cells wAwake3 false,oAwake49,.cells wAwake3 false,.dead,.dead,oAwake2,oAwake3,.dead,oAwake4,oAwake5,.dead,oAwake6,oAwake7,.dead,oAwake8,oAwake9,.cells wAwake4 false,.cells wAwake3 false,.cells wAwake3 false,.cells wAwake9 false,oAwake12,.cells ⟨[vJ 599,vI 1000]⟩ false,.cells ⟨[vJ 611,vI 637]⟩ false,.cells wAwake5 false,oAwake30,.cells ⟨[vJ 699,vI 900]⟩ false,.cells ⟨[vJ 611,vI 637]⟩ false,.cells wAwake6 false,oAwake48,.cells wAwake3 false,oAwake48,.cells ⟨[vI 0,vI 0]⟩ false,.cells ⟨[vJ 999,vI 1000]⟩ false],32,[4]⟩⟩
theorem kAwake136:KAwake136.Ok Try.prog:=HF.of noNG mixed (hs:=[]) .nil (l:=[KAwake37,KAwake126]) (.cons kAwake37 (.cons kAwake126 .nil)) 3000 (by kernel_rfl)
def KAwake137:CF:=⟨132,[.agg ⟨[.int .u64 (.ofNat 7),vI 2,vI 120]⟩,vI 121],.agg ⟨[.int .u64 (.ofNat 7),vI 2,vI 121]⟩⟩
theorem kAwake137:KAwake137.Ok Try.prog:=CF.of2 noNG mixed (l:=[]) .nil 3000 (by kernel_rfl)
def KAwake138:HF:=⟨131,[.agg wAwake3,.agg ⟨[.int .u64 (.ofNat 7),vI 2,vI 120]⟩,.agg ⟨[.int .u64 (.ofNat 7),vI 2,vI 121]⟩,vI 0],⟨[oAwake0,oAwake1,oAwake0,.cells wAwake3 false,oAwake49,.cells wAwake3 false,.dead,.dead,oAwake2,oAwake3,.dead,oAwake4,oAwake5,.dead,oAwake6,oAwake7,.dead,oAwake8,oAwake9,.cells wAwake4 false,.cells wAwake3 false,.cells wAwake3 false,.cells wAwake9 false,oAwake12,.cells ⟨[vJ 599,vI 1000]⟩ false,.cells ⟨[vJ 611,vI 637]⟩ false,.cells wAwake5 false,oAwake30,.cells ⟨[vJ 699,vI 900]⟩ false,.cells ⟨[vJ 611,vI 637]⟩ false,.cells wAwake6 false,oAwake48,.cells wAwake3 false,oAwake48,.cells ⟨[vI 0,vI 0]⟩ false,.cells ⟨[vJ 849,vI 1000]⟩ false],32,[4]⟩,.agg ⟨[vJ 1099,vI 2600]⟩,⟨[oAwake0,oAwake1,oAwake0,.cells wAwake3 false,oAwake50,.cells wAwake3 false,.dead,.dead,oAwake2,oAwake3,.dead,oAwake4,oAwake5,.dead,oAwake6,oAwake7,.dead,oAwake8,oAwake9,.cells wAwake4 false,.cells wAwake3 false,.cells wAwake3 false,.cells wAwake9 false,oAwake12,.cells ⟨[vJ 599,vI 1000]⟩ false,.cells ⟨[vJ 611,vI 637]⟩ false,.cells wAwake5 false,oAwake30,.cells ⟨[vJ 699,vI 900]⟩ false,.cells ⟨[vJ 611,vI 637]⟩ false,.cells wAwake6 false,oAwake48,.cells wAwake3 false,oAwake48,.cells ⟨[vI 0,vI 0]⟩ false,.cells ⟨[vJ 849,vI 1000]⟩ false],32,[4,4]⟩⟩
theorem kAwake138:KAwake138.Ok Try.prog:=HF.of noNG mixed (hs:=[]) .nil (l:=[KAwake40,KAwake126]) (.cons kAwake40 (.cons kAwake126 .nil)) 3000 (by kernel_rfl)
def KAwake139:CF:=⟨132,[.agg ⟨[.int .u64 (.ofNat 7),vI 2,vI 120]⟩,vI 118],.agg ⟨[.int .u64 (.ofNat 7),vI 2,vI 118]⟩⟩
theorem kAwake139:KAwake139.Ok Try.prog:=CF.of2 noNG mixed (l:=[]) .nil 3000 (by kernel_rfl)
def KAwake140:HF:=⟨131,[.agg wAwake3,.agg ⟨[.int .u64 (.ofNat 7),vI 2,vI 118]⟩,.agg ⟨[.int .u64 (.ofNat 7),vI 2,vI 120]⟩,vI 150],⟨[oAwake0,oAwake1,oAwake0,.cells wAwake3 false,oAwake50,.cells wAwake3 false,.dead,.dead,oAwake2,oAwake3,.dead,oAwake4,oAwake5,.dead,oAwake6,oAwake7,.dead,oAwake8,oAwake9,.cells wAwake4 false,.cells wAwake3 false,.cells wAwake3 false,.cells wAwake9 false,oAwake12,.cells ⟨[vJ 599,vI 1000]⟩ false,.cells ⟨[vJ 611,vI 637]⟩ false,.cells wAwake5 false,oAwake30,.cells ⟨[vJ 699,vI 900]⟩ false,.cells ⟨[vJ 611,vI 637]⟩ false,.cells wAwake6 false,oAwake48,.cells wAwake3 false,oAwake48,.cells ⟨[vI 0,vI 0]⟩ false,.cells ⟨[vJ 849,vI 1000]⟩ false],32,[4,4]⟩,.agg ⟨[vI 0,vI 1875]⟩,⟨[oAwake0,oAwake1,oAwake0,.cells wAwake3 false,oAwake51,.cells wAwake3 false,.dead,.dead,oAwake2,oAwake3,.dead,oAwake4,oAwake5,.dead,oAwake6,oAwake7,.dead,oAwake8,oAwake9,.cells wAwake4 false,.cells wAwake3 false,.cells wAwake3 false,.cells wAwake9 false,oAwake12,.cells ⟨[vJ 599,vI 1000]⟩ false,.cells ⟨[vJ 611,vI 637]⟩ false,.cells wAwake5 false,oAwake30,.cells ⟨[vJ 699,vI 900]⟩ false,.cells ⟨[vJ 611,vI 637]⟩ false,.cells wAwake6 false,oAwake48,.cells wAwake3 false,oAwake48,.cells ⟨[vI 0,vI 0]⟩ false,.cells ⟨[vJ 849,vI 1000]⟩ false],32,[4,4,4]⟩⟩
theorem kAwake140:KAwake140.Ok Try.prog:=HF.of noNG mixed (hs:=[]) .nil (l:=[KAwake43,KAwake126]) (.cons kAwake43 (.cons kAwake126 .nil)) 3000 (by kernel_rfl)
def KAwake141:CF:=⟨132,[.agg ⟨[.int .u64 (.ofNat 7),vI 2,vI 120]⟩,vI 122],.agg ⟨[.int .u64 (.ofNat 7),vI 2,vI 122]⟩⟩
theorem kAwake141:KAwake141.Ok Try.prog:=CF.of2 noNG mixed (l:=[]) .nil 3000 (by kernel_rfl)
def KAwake142:HF:=⟨131,[.agg wAwake3,.agg ⟨[.int .u64 (.ofNat 7),vI 2,vI 120]⟩,.agg ⟨[.int .u64 (.ofNat 7),vI 2,vI 122]⟩,vI 50],⟨[oAwake0,oAwake1,oAwake0,.cells wAwake3 false,oAwake51,.cells wAwake3 false,.dead,.dead,oAwake2,oAwake3,.dead,oAwake4,oAwake5,.dead,oAwake6,oAwake7,.dead,oAwake8,oAwake9,.cells wAwake4 false,.cells wAwake3 false,.cells wAwake3 false,.cells wAwake9 false,oAwake12,.cells ⟨[vJ 599,vI 1000]⟩ false,.cells ⟨[vJ 611,vI 637]⟩ false,.cells wAwake5 false,oAwake30,.cells ⟨[vJ 699,vI 900]⟩ false,.cells ⟨[vJ 611,vI 637]⟩ false,.cells wAwake6 false,oAwake48,.cells wAwake3 false,oAwake48,.cells ⟨[vI 0,vI 0]⟩ false,.cells ⟨[vI 0,vI 1000]⟩ false],32,[4,4,4]⟩,.agg ⟨[vJ 74,vI 1825]⟩,⟨[oAwake0,oAwake1,oAwake0,.cells wAwake3 false,oAwake52,.cells wAwake3 false,.dead,.dead,oAwake2,oAwake3,.dead,oAwake4,oAwake5,.dead,oAwake6,oAwake7,.dead,oAwake8,oAwake9,.cells wAwake4 false,.cells wAwake3 false,.cells wAwake3 false,.cells wAwake9 false,oAwake12,.cells ⟨[vJ 599,vI 1000]⟩ false,.cells ⟨[vJ 611,vI 637]⟩ false,.cells wAwake5 false,oAwake30,.cells ⟨[vJ 699,vI 900]⟩ false,.cells ⟨[vJ 611,vI 637]⟩ false,.cells wAwake6 false,oAwake48,.cells wAwake3 false,oAwake48,.cells ⟨[vI 0,vI 0]⟩ false,.cells ⟨[vI 0,vI 1000]⟩ false],32,[4,4,4,4]⟩⟩
theorem kAwake142:KAwake142.Ok Try.prog:=HF.of noNG mixed (hs:=[]) .nil (l:=[KAwake126,KAwake46]) (.cons kAwake126 (.cons kAwake46 .nil)) 3000 (by kernel_rfl)
def KAwake143:CF:=⟨132,[.agg ⟨[.int .u64 (.ofNat 7),vI 2,vI 120]⟩,vI 117],.agg ⟨[.int .u64 (.ofNat 7),vI 2,vI 117]⟩⟩
theorem kAwake143:KAwake143.Ok Try.prog:=CF.of2 noNG mixed (l:=[]) .nil 3000 (by kernel_rfl)
def KAwake144:HF:=⟨131,[.agg wAwake3,.agg ⟨[.int .u64 (.ofNat 7),vI 2,vI 117]⟩,.agg ⟨[.int .u64 (.ofNat 7),vI 2,vI 120]⟩,vI 300],⟨[oAwake0,oAwake1,oAwake0,.cells wAwake3 false,oAwake52,.cells wAwake3 false,.dead,.dead,oAwake2,oAwake3,.dead,oAwake4,oAwake5,.dead,oAwake6,oAwake7,.dead,oAwake8,oAwake9,.cells wAwake4 false,.cells wAwake3 false,.cells wAwake3 false,.cells wAwake9 false,oAwake12,.cells ⟨[vJ 599,vI 1000]⟩ false,.cells ⟨[vJ 611,vI 637]⟩ false,.cells wAwake5 false,oAwake30,.cells ⟨[vJ 699,vI 900]⟩ false,.cells ⟨[vJ 611,vI 637]⟩ false,.cells wAwake6 false,oAwake48,.cells wAwake3 false,oAwake48,.cells ⟨[vI 0,vI 0]⟩ false,.cells ⟨[vI 0,vI 1000]⟩ false],32,[4,4,4,4]⟩,.agg ⟨[vI 250,vI 1633]⟩,⟨[oAwake0,oAwake1,oAwake0,.cells wAwake3 false,oAwake53,.cells wAwake3 false,.dead,.dead,oAwake2,oAwake3,.dead,oAwake4,oAwake5,.dead,oAwake6,oAwake7,.dead,oAwake8,oAwake9,.cells wAwake4 false,.cells wAwake3 false,.cells wAwake3 false,.cells wAwake9 false,oAwake12,.cells ⟨[vJ 599,vI 1000]⟩ false,.cells ⟨[vJ 611,vI 637]⟩ false,.cells wAwake5 false,oAwake30,.cells ⟨[vJ 699,vI 900]⟩ false,.cells ⟨[vJ 611,vI 637]⟩ false,.cells wAwake6 false,oAwake48,.cells wAwake3 false,oAwake48,.cells ⟨[vI 0,vI 0]⟩ false,.cells ⟨[vI 0,vI 1000]⟩ false],32,[4,4,4,4,4]⟩⟩
theorem kAwake144:KAwake144.Ok Try.prog:=HF.of noNG mixed (hs:=[]) .nil (l:=[KAwake49,KAwake126]) (.cons kAwake49 (.cons kAwake126 .nil)) 3000 (by kernel_rfl)
def KAwake145:CF:=⟨132,[.agg ⟨[.int .u64 (.ofNat 7),vI 2,vI 120]⟩,vI 123],.agg ⟨[.int .u64 (.ofNat 7),vI 2,vI 123]⟩⟩
theorem kAwake145:KAwake145.Ok Try.prog:=CF.of2 noNG mixed (l:=[]) .nil 3000 (by kernel_rfl)
def KAwake146:HF:=⟨131,[.agg wAwake3,.agg ⟨[.int .u64 (.ofNat 7),vI 2,vI 120]⟩,.agg ⟨[.int .u64 (.ofNat 7),vI 2,vI 123]⟩,vI 150],⟨[oAwake0,oAwake1,oAwake0,.cells wAwake3 false,oAwake53,.cells wAwake3 false,.dead,.dead,oAwake2,oAwake3,.dead,oAwake4,oAwake5,.dead,oAwake6,oAwake7,.dead,oAwake8,oAwake9,.cells wAwake4 false,.cells wAwake3 false,.cells wAwake3 false,.cells wAwake9 false,oAwake12,.cells ⟨[vJ 599,vI 1000]⟩ false,.cells ⟨[vJ 611,vI 637]⟩ false,.cells wAwake5 false,oAwake30,.cells ⟨[vJ 699,vI 900]⟩ false,.cells ⟨[vJ 611,vI 637]⟩ false,.cells wAwake6 false,oAwake48,.cells wAwake3 false,oAwake48,.cells ⟨[vI 0,vI 0]⟩ false,.cells ⟨[vI 250,vI 1000]⟩ false],32,[4,4,4,4,4]⟩,.agg ⟨[vI 250,vI 1583]⟩,⟨[oAwake0,oAwake1,oAwake0,.cells wAwake3 false,oAwake54,.cells wAwake3 false,.dead,.dead,oAwake2,oAwake3,.dead,oAwake4,oAwake5,.dead,oAwake6,oAwake7,.dead,oAwake8,oAwake9,.cells wAwake4 false,.cells wAwake3 false,.cells wAwake3 false,.cells wAwake9 false,oAwake12,.cells ⟨[vJ 599,vI 1000]⟩ false,.cells ⟨[vJ 611,vI 637]⟩ false,.cells wAwake5 false,oAwake30,.cells ⟨[vJ 699,vI 900]⟩ false,.cells ⟨[vJ 611,vI 637]⟩ false,.cells wAwake6 false,oAwake48,.cells wAwake3 false,oAwake48,.cells ⟨[vI 0,vI 0]⟩ false,.cells ⟨[vI 250,vI 1000]⟩ false],32,[4,4,4,4,4,4]⟩⟩
theorem kAwake146:KAwake146.Ok Try.prog:=HF.of noNG mixed (hs:=[]) .nil (l:=[KAwake52,KAwake126]) (.cons kAwake52 (.cons kAwake126 .nil)) 3000 (by kernel_rfl)
def KAwake147:CF:=⟨132,[.agg ⟨[.int .u64 (.ofNat 7),vI 2,vI 120]⟩,vI 116],.agg ⟨[.int .u64 (.ofNat 7),vI 2,vI 116]⟩⟩
theorem kAwake147:KAwake147.Ok Try.prog:=CF.of2 noNG mixed (l:=[]) .nil 3000 (by kernel_rfl)
def KAwake148:HF:=⟨131,[.agg wAwake3,.agg ⟨[.int .u64 (.ofNat 7),vI 2,vI 116]⟩,.agg ⟨[.int .u64 (.ofNat 7),vI 2,vI 120]⟩,vI 500],⟨[oAwake0,oAwake1,oAwake0,.cells wAwake3 false,oAwake54,.cells wAwake3 false,.dead,.dead,oAwake2,oAwake3,.dead,oAwake4,oAwake5,.dead,oAwake6,oAwake7,.dead,oAwake8,oAwake9,.cells wAwake4 false,.cells wAwake3 false,.cells wAwake3 false,.cells wAwake9 false,oAwake12,.cells ⟨[vJ 599,vI 1000]⟩ false,.cells ⟨[vJ 611,vI 637]⟩ false,.cells wAwake5 false,oAwake30,.cells ⟨[vJ 699,vI 900]⟩ false,.cells ⟨[vJ 611,vI 637]⟩ false,.cells wAwake6 false,oAwake48,.cells wAwake3 false,oAwake48,.cells ⟨[vI 0,vI 0]⟩ false,.cells ⟨[vI 250,vI 1000]⟩ false],32,[4,4,4,4,4,4]⟩,.agg ⟨[vI 350,vI 1525]⟩,⟨[oAwake0,oAwake1,oAwake0,.cells wAwake3 false,oAwake55,.cells wAwake3 false,.dead,.dead,oAwake2,oAwake3,.dead,oAwake4,oAwake5,.dead,oAwake6,oAwake7,.dead,oAwake8,oAwake9,.cells wAwake4 false,.cells wAwake3 false,.cells wAwake3 false,.cells wAwake9 false,oAwake12,.cells ⟨[vJ 599,vI 1000]⟩ false,.cells ⟨[vJ 611,vI 637]⟩ false,.cells wAwake5 false,oAwake30,.cells ⟨[vJ 699,vI 900]⟩ false,.cells ⟨[vJ 611,vI 637]⟩ false,.cells wAwake6 false,oAwake48,.cells wAwake3 false,oAwake48,.cells ⟨[vI 0,vI 0]⟩ false,.cells ⟨[vI 250,vI 1000]⟩ false],32,[4,4,4,4,4,4,4]⟩⟩
theorem kAwake148:KAwake148.Ok Try.prog:=HF.of noNG mixed (hs:=[]) .nil (l:=[KAwake126,KAwake55]) (.cons kAwake126 (.cons kAwake55 .nil)) 3000 (by kernel_rfl)
def KAwake149:CF:=⟨132,[.agg ⟨[.int .u64 (.ofNat 7),vI 2,vI 120]⟩,vI 124],.agg ⟨[.int .u64 (.ofNat 7),vI 2,vI 124]⟩⟩
theorem kAwake149:KAwake149.Ok Try.prog:=CF.of2 noNG mixed (l:=[]) .nil 3000 (by kernel_rfl)
def KAwake150:HF:=⟨131,[.agg wAwake3,.agg ⟨[.int .u64 (.ofNat 7),vI 2,vI 120]⟩,.agg ⟨[.int .u64 (.ofNat 7),vI 2,vI 124]⟩,vI 300],⟨[oAwake0,oAwake1,oAwake0,.cells wAwake3 false,oAwake55,.cells wAwake3 false,.dead,.dead,oAwake2,oAwake3,.dead,oAwake4,oAwake5,.dead,oAwake6,oAwake7,.dead,oAwake8,oAwake9,.cells wAwake4 false,.cells wAwake3 false,.cells wAwake3 false,.cells wAwake9 false,oAwake12,.cells ⟨[vJ 599,vI 1000]⟩ false,.cells ⟨[vJ 611,vI 637]⟩ false,.cells wAwake5 false,oAwake30,.cells ⟨[vJ 699,vI 900]⟩ false,.cells ⟨[vJ 611,vI 637]⟩ false,.cells wAwake6 false,oAwake48,.cells wAwake3 false,oAwake48,.cells ⟨[vI 0,vI 0]⟩ false,.cells ⟨[vI 350,vI 1000]⟩ false],32,[4,4,4,4,4,4,4]⟩,.agg ⟨[vI 400,vI 1475]⟩,⟨[oAwake0,oAwake1,oAwake0,.cells wAwake3 false,oAwake56,.cells wAwake3 false,.dead,.dead,oAwake2,oAwake3,.dead,oAwake4,oAwake5,.dead,oAwake6,oAwake7,.dead,oAwake8,oAwake9,.cells wAwake4 false,.cells wAwake3 false,.cells wAwake3 false,.cells wAwake9 false,oAwake12,.cells ⟨[vJ 599,vI 1000]⟩ false,.cells ⟨[vJ 611,vI 637]⟩ false,.cells wAwake5 false,oAwake30,.cells ⟨[vJ 699,vI 900]⟩ false,.cells ⟨[vJ 611,vI 637]⟩ false,.cells wAwake6 false,oAwake48,.cells wAwake3 false,oAwake48,.cells ⟨[vI 0,vI 0]⟩ false,.cells ⟨[vI 350,vI 1000]⟩ false],32,[4,4,4,4,4,4,4,4]⟩⟩
theorem kAwake150:KAwake150.Ok Try.prog:=HF.of noNG mixed (hs:=[]) .nil (l:=[KAwake58,KAwake126]) (.cons kAwake58 (.cons kAwake126 .nil)) 3000 (by kernel_rfl)
def KAwake151:CF:=⟨132,[.agg ⟨[.int .u64 (.ofNat 7),vI 2,vI 120]⟩,vI 115],.agg ⟨[.int .u64 (.ofNat 7),vI 2,vI 115]⟩⟩
theorem kAwake151:KAwake151.Ok Try.prog:=CF.of2 noNG mixed (l:=[]) .nil 3000 (by kernel_rfl)
def KAwake152:HF:=⟨131,[.agg wAwake3,.agg ⟨[.int .u64 (.ofNat 7),vI 2,vI 115]⟩,.agg ⟨[.int .u64 (.ofNat 7),vI 2,vI 120]⟩,vI 750],⟨[oAwake0,oAwake1,oAwake0,.cells wAwake3 false,oAwake56,.cells wAwake3 false,.dead,.dead,oAwake2,oAwake3,.dead,oAwake4,oAwake5,.dead,oAwake6,oAwake7,.dead,oAwake8,oAwake9,.cells wAwake4 false,.cells wAwake3 false,.cells wAwake3 false,.cells wAwake9 false,oAwake12,.cells ⟨[vJ 599,vI 1000]⟩ false,.cells ⟨[vJ 611,vI 637]⟩ false,.cells wAwake5 false,oAwake30,.cells ⟨[vJ 699,vI 900]⟩ false,.cells ⟨[vJ 611,vI 637]⟩ false,.cells wAwake6 false,oAwake48,.cells wAwake3 false,oAwake48,.cells ⟨[vI 0,vI 0]⟩ false,.cells ⟨[vI 400,vI 1000]⟩ false],32,[4,4,4,4,4,4,4,4]⟩,.agg ⟨[vI 390,vI 1470]⟩,⟨[oAwake0,oAwake1,oAwake0,.cells wAwake3 false,oAwake57,.cells wAwake3 false,.dead,.dead,oAwake2,oAwake3,.dead,oAwake4,oAwake5,.dead,oAwake6,oAwake7,.dead,oAwake8,oAwake9,.cells wAwake4 false,.cells wAwake3 false,.cells wAwake3 false,.cells wAwake9 false,oAwake12,.cells ⟨[vJ 599,vI 1000]⟩ false,.cells ⟨[vJ 611,vI 637]⟩ false,.cells wAwake5 false,oAwake30,.cells ⟨[vJ 699,vI 900]⟩ false,.cells ⟨[vJ 611,vI 637]⟩ false,.cells wAwake6 false,oAwake48,.cells wAwake3 false,oAwake48,.cells ⟨[vI 0,vI 0]⟩ false,.cells ⟨[vI 400,vI 1000]⟩ false],32,[4,4,4,4,4,4,4,4,4]⟩⟩
theorem kAwake152:KAwake152.Ok Try.prog:=HF.of noNG mixed (hs:=[]) .nil (l:=[KAwake61,KAwake126]) (.cons kAwake61 (.cons kAwake126 .nil)) 3000 (by kernel_rfl)
def KAwake153:CF:=⟨132,[.agg ⟨[.int .u64 (.ofNat 7),vI 2,vI 120]⟩,vI 125],.agg ⟨[.int .u64 (.ofNat 7),vI 2,vI 125]⟩⟩
theorem kAwake153:KAwake153.Ok Try.prog:=CF.of2 noNG mixed (l:=[]) .nil 3000 (by kernel_rfl)
def KAwake154:HF:=⟨131,[.agg wAwake3,.agg ⟨[.int .u64 (.ofNat 7),vI 2,vI 120]⟩,.agg ⟨[.int .u64 (.ofNat 7),vI 2,vI 125]⟩,vI 500],⟨[oAwake0,oAwake1,oAwake0,.cells wAwake3 false,oAwake57,.cells wAwake3 false,.dead,.dead,oAwake2,oAwake3,.dead,oAwake4,oAwake5,.dead,oAwake6,oAwake7,.dead,oAwake8,oAwake9,.cells wAwake4 false,.cells wAwake3 false,.cells wAwake3 false,.cells wAwake9 false,oAwake12,.cells ⟨[vJ 599,vI 1000]⟩ false,.cells ⟨[vJ 611,vI 637]⟩ false,.cells wAwake5 false,oAwake30,.cells ⟨[vJ 699,vI 900]⟩ false,.cells ⟨[vJ 611,vI 637]⟩ false,.cells wAwake6 false,oAwake48,.cells wAwake3 false,oAwake48,.cells ⟨[vI 0,vI 0]⟩ false,.cells ⟨[vI 400,vI 1000]⟩ false],32,[4,4,4,4,4,4,4,4,4]⟩,.agg ⟨[vI 480,vI 1420]⟩,⟨[oAwake0,oAwake1,oAwake0,.cells wAwake3 false,oAwake58,.cells wAwake3 false,.dead,.dead,oAwake2,oAwake3,.dead,oAwake4,oAwake5,.dead,oAwake6,oAwake7,.dead,oAwake8,oAwake9,.cells wAwake4 false,.cells wAwake3 false,.cells wAwake3 false,.cells wAwake9 false,oAwake12,.cells ⟨[vJ 599,vI 1000]⟩ false,.cells ⟨[vJ 611,vI 637]⟩ false,.cells wAwake5 false,oAwake30,.cells ⟨[vJ 699,vI 900]⟩ false,.cells ⟨[vJ 611,vI 637]⟩ false,.cells wAwake6 false,oAwake48,.cells wAwake3 false,oAwake48,.cells ⟨[vI 0,vI 0]⟩ false,.cells ⟨[vI 400,vI 1000]⟩ false],32,[4,4,4,4,4,4,4,4,4,4]⟩⟩
theorem kAwake154:KAwake154.Ok Try.prog:=HF.of noNG mixed (hs:=[]) .nil (l:=[KAwake64,KAwake126]) (.cons kAwake64 (.cons kAwake126 .nil)) 3000 (by kernel_rfl)
def KAwake155:CF:=⟨132,[.agg ⟨[.int .u64 (.ofNat 7),vI 2,vI 120]⟩,vI 114],.agg ⟨[.int .u64 (.ofNat 7),vI 2,vI 114]⟩⟩
theorem kAwake155:KAwake155.Ok Try.prog:=CF.of2 noNG mixed (l:=[]) .nil 3000 (by kernel_rfl)
def KAwake156:HF:=⟨131,[.agg wAwake3,.agg ⟨[.int .u64 (.ofNat 7),vI 2,vI 114]⟩,.agg ⟨[.int .u64 (.ofNat 7),vI 2,vI 120]⟩,vI 1050],⟨[oAwake0,oAwake1,oAwake0,.cells wAwake3 false,oAwake58,.cells wAwake3 false,.dead,.dead,oAwake2,oAwake3,.dead,oAwake4,oAwake5,.dead,oAwake6,oAwake7,.dead,oAwake8,oAwake9,.cells wAwake4 false,.cells wAwake3 false,.cells wAwake3 false,.cells wAwake9 false,oAwake12,.cells ⟨[vJ 599,vI 1000]⟩ false,.cells ⟨[vJ 611,vI 637]⟩ false,.cells wAwake5 false,oAwake30,.cells ⟨[vJ 699,vI 900]⟩ false,.cells ⟨[vJ 611,vI 637]⟩ false,.cells wAwake6 false,oAwake48,.cells wAwake3 false,oAwake48,.cells ⟨[vI 0,vI 0]⟩ false,.cells ⟨[vI 480,vI 1000]⟩ false],32,[4,4,4,4,4,4,4,4,4,4]⟩,.agg ⟨[vI 400,vI 1441]⟩,⟨[oAwake0,oAwake1,oAwake0,.cells wAwake3 false,oAwake59,.cells wAwake3 false,.dead,.dead,oAwake2,oAwake3,.dead,oAwake4,oAwake5,.dead,oAwake6,oAwake7,.dead,oAwake8,oAwake9,.cells wAwake4 false,.cells wAwake3 false,.cells wAwake3 false,.cells wAwake9 false,oAwake12,.cells ⟨[vJ 599,vI 1000]⟩ false,.cells ⟨[vJ 611,vI 637]⟩ false,.cells wAwake5 false,oAwake30,.cells ⟨[vJ 699,vI 900]⟩ false,.cells ⟨[vJ 611,vI 637]⟩ false,.cells wAwake6 false,oAwake48,.cells wAwake3 false,oAwake48,.cells ⟨[vI 0,vI 0]⟩ false,.cells ⟨[vI 480,vI 1000]⟩ false],32,[4,4,4,4,4,4,4,4,4,4,4]⟩⟩
theorem kAwake156:KAwake156.Ok Try.prog:=HF.of noNG mixed (hs:=[]) .nil (l:=[KAwake67,KAwake126]) (.cons kAwake67 (.cons kAwake126 .nil)) 3000 (by kernel_rfl)
def KAwake157:CF:=⟨132,[.agg ⟨[.int .u64 (.ofNat 7),vI 2,vI 120]⟩,vI 126],.agg ⟨[.int .u64 (.ofNat 7),vI 2,vI 126]⟩⟩
theorem kAwake157:KAwake157.Ok Try.prog:=CF.of2 noNG mixed (l:=[]) .nil 3000 (by kernel_rfl)
def KAwake158:HF:=⟨131,[.agg wAwake3,.agg ⟨[.int .u64 (.ofNat 7),vI 2,vI 120]⟩,.agg ⟨[.int .u64 (.ofNat 7),vI 2,vI 126]⟩,vI 750],⟨[oAwake0,oAwake1,oAwake0,.cells wAwake3 false,oAwake59,.cells wAwake3 false,.dead,.dead,oAwake2,oAwake3,.dead,oAwake4,oAwake5,.dead,oAwake6,oAwake7,.dead,oAwake8,oAwake9,.cells wAwake4 false,.cells wAwake3 false,.cells wAwake3 false,.cells wAwake9 false,oAwake12,.cells ⟨[vJ 599,vI 1000]⟩ false,.cells ⟨[vJ 611,vI 637]⟩ false,.cells wAwake5 false,oAwake30,.cells ⟨[vJ 699,vI 900]⟩ false,.cells ⟨[vJ 611,vI 637]⟩ false,.cells wAwake6 false,oAwake48,.cells wAwake3 false,oAwake48,.cells ⟨[vI 0,vI 0]⟩ false,.cells ⟨[vI 480,vI 1000]⟩ false],32,[4,4,4,4,4,4,4,4,4,4,4]⟩,.agg ⟨[vI 525,vI 1391]⟩,⟨[oAwake0,oAwake1,oAwake0,.cells wAwake3 false,oAwake60,.cells wAwake3 false,.dead,.dead,oAwake2,oAwake3,.dead,oAwake4,oAwake5,.dead,oAwake6,oAwake7,.dead,oAwake8,oAwake9,.cells wAwake4 false,.cells wAwake3 false,.cells wAwake3 false,.cells wAwake9 false,oAwake12,.cells ⟨[vJ 599,vI 1000]⟩ false,.cells ⟨[vJ 611,vI 637]⟩ false,.cells wAwake5 false,oAwake30,.cells ⟨[vJ 699,vI 900]⟩ false,.cells ⟨[vJ 611,vI 637]⟩ false,.cells wAwake6 false,oAwake48,.cells wAwake3 false,oAwake48,.cells ⟨[vI 0,vI 0]⟩ false,.cells ⟨[vI 480,vI 1000]⟩ false],32,[4,4,4,4,4,4,4,4,4,4,4,4]⟩⟩
theorem kAwake158:KAwake158.Ok Try.prog:=HF.of noNG mixed (hs:=[]) .nil (l:=[KAwake126,KAwake70]) (.cons kAwake126 (.cons kAwake70 .nil)) 3000 (by kernel_rfl)
def KAwake159:CF:=⟨132,[.agg ⟨[.int .u64 (.ofNat 7),vI 2,vI 120]⟩,vI 113],.agg ⟨[.int .u64 (.ofNat 7),vI 2,vI 113]⟩⟩
theorem kAwake159:KAwake159.Ok Try.prog:=CF.of2 noNG mixed (l:=[]) .nil 3000 (by kernel_rfl)
def KAwake160:HF:=⟨131,[.agg wAwake3,.agg ⟨[.int .u64 (.ofNat 7),vI 2,vI 113]⟩,.agg ⟨[.int .u64 (.ofNat 7),vI 2,vI 120]⟩,vI 1400],⟨[oAwake0,oAwake1,oAwake0,.cells wAwake3 false,oAwake60,.cells wAwake3 false,.dead,.dead,oAwake2,oAwake3,.dead,oAwake4,oAwake5,.dead,oAwake6,oAwake7,.dead,oAwake8,oAwake9,.cells wAwake4 false,.cells wAwake3 false,.cells wAwake3 false,.cells wAwake9 false,oAwake12,.cells ⟨[vJ 599,vI 1000]⟩ false,.cells ⟨[vJ 611,vI 637]⟩ false,.cells wAwake5 false,oAwake30,.cells ⟨[vJ 699,vI 900]⟩ false,.cells ⟨[vJ 611,vI 637]⟩ false,.cells wAwake6 false,oAwake48,.cells wAwake3 false,oAwake48,.cells ⟨[vI 0,vI 0]⟩ false,.cells ⟨[vI 525,vI 1000]⟩ false],32,[4,4,4,4,4,4,4,4,4,4,4,4]⟩,.agg ⟨[vI 393,vI 1428]⟩,⟨[oAwake0,oAwake1,oAwake0,.cells wAwake3 false,oAwake61,.cells wAwake3 false,.dead,.dead,oAwake2,oAwake3,.dead,oAwake4,oAwake5,.dead,oAwake6,oAwake7,.dead,oAwake8,oAwake9,.cells wAwake4 false,.cells wAwake3 false,.cells wAwake3 false,.cells wAwake9 false,oAwake12,.cells ⟨[vJ 599,vI 1000]⟩ false,.cells ⟨[vJ 611,vI 637]⟩ false,.cells wAwake5 false,oAwake30,.cells ⟨[vJ 699,vI 900]⟩ false,.cells ⟨[vJ 611,vI 637]⟩ false,.cells wAwake6 false,oAwake48,.cells wAwake3 false,oAwake48,.cells ⟨[vI 0,vI 0]⟩ false,.cells ⟨[vI 525,vI 1000]⟩ false],32,[4,4,4,4,4,4,4,4,4,4,4,4,4]⟩⟩
theorem kAwake160:KAwake160.Ok Try.prog:=HF.of noNG mixed (hs:=[]) .nil (l:=[KAwake73,KAwake126]) (.cons kAwake73 (.cons kAwake126 .nil)) 3000 (by kernel_rfl)
def KAwake161:CF:=⟨132,[.agg ⟨[.int .u64 (.ofNat 7),vI 2,vI 120]⟩,vI 127],.agg ⟨[.int .u64 (.ofNat 7),vI 2,vI 127]⟩⟩
theorem kAwake161:KAwake161.Ok Try.prog:=CF.of2 noNG mixed (l:=[]) .nil 3000 (by kernel_rfl)
def KAwake162:HF:=⟨131,[.agg wAwake3,.agg ⟨[.int .u64 (.ofNat 7),vI 2,vI 120]⟩,.agg ⟨[.int .u64 (.ofNat 7),vI 2,vI 127]⟩,vI 1050],⟨[oAwake0,oAwake1,oAwake0,.cells wAwake3 false,oAwake61,.cells wAwake3 false,.dead,.dead,oAwake2,oAwake3,.dead,oAwake4,oAwake5,.dead,oAwake6,oAwake7,.dead,oAwake8,oAwake9,.cells wAwake4 false,.cells wAwake3 false,.cells wAwake3 false,.cells wAwake9 false,oAwake12,.cells ⟨[vJ 599,vI 1000]⟩ false,.cells ⟨[vJ 611,vI 637]⟩ false,.cells wAwake5 false,oAwake30,.cells ⟨[vJ 699,vI 900]⟩ false,.cells ⟨[vJ 611,vI 637]⟩ false,.cells wAwake6 false,oAwake48,.cells wAwake3 false,oAwake48,.cells ⟨[vI 0,vI 0]⟩ false,.cells ⟨[vI 525,vI 1000]⟩ false],32,[4,4,4,4,4,4,4,4,4,4,4,4,4]⟩,.agg ⟨[vI 550,vI 1378]⟩,⟨[oAwake0,oAwake1,oAwake0,.cells wAwake3 false,oAwake62,.cells wAwake3 false,.dead,.dead,oAwake2,oAwake3,.dead,oAwake4,oAwake5,.dead,oAwake6,oAwake7,.dead,oAwake8,oAwake9,.cells wAwake4 false,.cells wAwake3 false,.cells wAwake3 false,.cells wAwake9 false,oAwake12,.cells ⟨[vJ 599,vI 1000]⟩ false,.cells ⟨[vJ 611,vI 637]⟩ false,.cells wAwake5 false,oAwake30,.cells ⟨[vJ 699,vI 900]⟩ false,.cells ⟨[vJ 611,vI 637]⟩ false,.cells wAwake6 false,oAwake48,.cells wAwake3 false,oAwake48,.cells ⟨[vI 0,vI 0]⟩ false,.cells ⟨[vI 525,vI 1000]⟩ false],32,[4,4,4,4,4,4,4,4,4,4,4,4,4,4]⟩⟩
theorem kAwake162:KAwake162.Ok Try.prog:=HF.of noNG mixed (hs:=[]) .nil (l:=[KAwake76,KAwake126]) (.cons kAwake76 (.cons kAwake126 .nil)) 3000 (by kernel_rfl)
def KAwake163:CF:=⟨132,[.agg ⟨[.int .u64 (.ofNat 7),vI 2,vI 120]⟩,vI 112],.agg ⟨[.int .u64 (.ofNat 7),vI 2,vI 112]⟩⟩
theorem kAwake163:KAwake163.Ok Try.prog:=CF.of2 noNG mixed (l:=[]) .nil 3000 (by kernel_rfl)
def KAwake164:HF:=⟨131,[.agg wAwake3,.agg ⟨[.int .u64 (.ofNat 7),vI 2,vI 112]⟩,.agg ⟨[.int .u64 (.ofNat 7),vI 2,vI 120]⟩,vI 1800],⟨[oAwake0,oAwake1,oAwake0,.cells wAwake3 false,oAwake62,.cells wAwake3 false,.dead,.dead,oAwake2,oAwake3,.dead,oAwake4,oAwake5,.dead,oAwake6,oAwake7,.dead,oAwake8,oAwake9,.cells wAwake4 false,.cells wAwake3 false,.cells wAwake3 false,.cells wAwake9 false,oAwake12,.cells ⟨[vJ 599,vI 1000]⟩ false,.cells ⟨[vJ 611,vI 637]⟩ false,.cells wAwake5 false,oAwake30,.cells ⟨[vJ 699,vI 900]⟩ false,.cells ⟨[vJ 611,vI 637]⟩ false,.cells wAwake6 false,oAwake48,.cells wAwake3 false,oAwake48,.cells ⟨[vI 0,vI 0]⟩ false,.cells ⟨[vI 550,vI 1000]⟩ false],32,[4,4,4,4,4,4,4,4,4,4,4,4,4,4]⟩,.agg ⟨[vI 375,vI 1425]⟩,⟨[oAwake0,oAwake1,oAwake0,.cells wAwake3 false,oAwake63,.cells wAwake3 false,.dead,.dead,oAwake2,oAwake3,.dead,oAwake4,oAwake5,.dead,oAwake6,oAwake7,.dead,oAwake8,oAwake9,.cells wAwake4 false,.cells wAwake3 false,.cells wAwake3 false,.cells wAwake9 false,oAwake12,.cells ⟨[vJ 599,vI 1000]⟩ false,.cells ⟨[vJ 611,vI 637]⟩ false,.cells wAwake5 false,oAwake30,.cells ⟨[vJ 699,vI 900]⟩ false,.cells ⟨[vJ 611,vI 637]⟩ false,.cells wAwake6 false,oAwake48,.cells wAwake3 false,oAwake48,.cells ⟨[vI 0,vI 0]⟩ false,.cells ⟨[vI 550,vI 1000]⟩ false],32,[4,4,4,4,4,4,4,4,4,4,4,4,4,4,4]⟩⟩
theorem kAwake164:KAwake164.Ok Try.prog:=HF.of noNG mixed (hs:=[]) .nil (l:=[KAwake126,KAwake79]) (.cons kAwake126 (.cons kAwake79 .nil)) 3000 (by kernel_rfl)
def KAwake165:CF:=⟨132,[.agg ⟨[.int .u64 (.ofNat 7),vI 2,vI 120]⟩,vI 128],.agg ⟨[.int .u64 (.ofNat 7),vI 2,vI 128]⟩⟩
theorem kAwake165:KAwake165.Ok Try.prog:=CF.of2 noNG mixed (l:=[]) .nil 3000 (by kernel_rfl)
def KAwake166:HF:=⟨131,[.agg wAwake3,.agg ⟨[.int .u64 (.ofNat 7),vI 2,vI 120]⟩,.agg ⟨[.int .u64 (.ofNat 7),vI 2,vI 128]⟩,vI 1400],⟨[oAwake0,oAwake1,oAwake0,.cells wAwake3 false,oAwake63,.cells wAwake3 false,.dead,.dead,oAwake2,oAwake3,.dead,oAwake4,oAwake5,.dead,oAwake6,oAwake7,.dead,oAwake8,oAwake9,.cells wAwake4 false,.cells wAwake3 false,.cells wAwake3 false,.cells wAwake9 false,oAwake12,.cells ⟨[vJ 599,vI 1000]⟩ false,.cells ⟨[vJ 611,vI 637]⟩ false,.cells wAwake5 false,oAwake30,.cells ⟨[vJ 699,vI 900]⟩ false,.cells ⟨[vJ 611,vI 637]⟩ false,.cells wAwake6 false,oAwake48,.cells wAwake3 false,oAwake48,.cells ⟨[vI 0,vI 0]⟩ false,.cells ⟨[vI 550,vI 1000]⟩ false],32,[4,4,4,4,4,4,4,4,4,4,4,4,4,4,4]⟩,.agg ⟨[vI 563,vI 1375]⟩,⟨[oAwake0,oAwake1,oAwake0,.cells wAwake3 false,oAwake64,.cells wAwake3 false,.dead,.dead,oAwake2,oAwake3,.dead,oAwake4,oAwake5,.dead,oAwake6,oAwake7,.dead,oAwake8,oAwake9,.cells wAwake4 false,.cells wAwake3 false,.cells wAwake3 false,.cells wAwake9 false,oAwake12,.cells ⟨[vJ 599,vI 1000]⟩ false,.cells ⟨[vJ 611,vI 637]⟩ false,.cells wAwake5 false,oAwake30,.cells ⟨[vJ 699,vI 900]⟩ false,.cells ⟨[vJ 611,vI 637]⟩ false,.cells wAwake6 false,oAwake48,.cells wAwake3 false,oAwake48,.cells ⟨[vI 0,vI 0]⟩ false,.cells ⟨[vI 550,vI 1000]⟩ false],32,[4,4,4,4,4,4,4,4,4,4,4,4,4,4,4,4]⟩⟩
theorem kAwake166:KAwake166.Ok Try.prog:=HF.of noNG mixed (hs:=[]) .nil (l:=[KAwake82,KAwake126]) (.cons kAwake82 (.cons kAwake126 .nil)) 3000 (by kernel_rfl)
def KAwake167:HF:=⟨104,[.agg wAwake3,.agg ⟨[.int .u64 (.ofNat 7),vI 2,vI 120]⟩],⟨[oAwake0,oAwake1,oAwake0,.cells wAwake3 false,oAwake47,.cells wAwake3 false,.dead,.dead,oAwake2,oAwake3,.dead,oAwake4,oAwake5,.dead,oAwake6,oAwake7,.dead,oAwake8,oAwake9,.cells wAwake4 false,.cells wAwake3 false,.cells wAwake3 false,.cells wAwake9 false,oAwake12,.cells ⟨[vJ 599,vI 1000]⟩ false,.cells ⟨[vJ 611,vI 637]⟩ false,.cells wAwake5 false,oAwake30,.cells ⟨[vJ 699,vI 900]⟩ false,.cells ⟨[vJ 611,vI 637]⟩ false,.cells wAwake6 false,oAwake48],21,[4,4,4,4,4,4,4,4,4,4,4,4,4,4,4,4,4,4,4,4,4,4,4,4,4,4,4,4,4,4,4,4,4,4,4]⟩,.agg ⟨[vI 563,vI 1000]⟩,⟨[oAwake0,oAwake1,oAwake0,.cells wAwake3 false,oAwake64,.cells wAwake3 false,.dead,.dead,oAwake2,oAwake3,.dead,oAwake4,oAwake5,.dead,oAwake6,oAwake7,.dead,oAwake8,oAwake9,.cells wAwake4 false,.cells wAwake3 false,.cells wAwake3 false,.cells wAwake9 false,oAwake12,.cells ⟨[vJ 599,vI 1000]⟩ false,.cells ⟨[vJ 611,vI 637]⟩ false,.cells wAwake5 false,oAwake30,.cells ⟨[vJ 699,vI 900]⟩ false,.cells ⟨[vJ 611,vI 637]⟩ false,.cells wAwake6 false,oAwake48],21,[4,4,4,4,4,4,4,4,4,4,4,4,4,4,4,4,4,4,4,4,4,4,4,4,4,4,4,4,4,4,4,4,4,4,4,4,4,4,4,4,4,4,4,4,4,4,4,4,4,4,4]⟩⟩
theorem kAwake167:KAwake167.Ok Try.prog:=HF.of noNG mixed (hs:=[KAwake136,KAwake138,KAwake140,KAwake142,KAwake144,KAwake146,KAwake148,KAwake150,KAwake152,KAwake154,KAwake156,KAwake158,KAwake160,KAwake162,KAwake164,KAwake166]) (.cons kAwake136 (.cons kAwake138 (.cons kAwake140 (.cons kAwake142 (.cons kAwake144 (.cons kAwake146 (.cons kAwake148 (.cons kAwake150 (.cons kAwake152 (.cons kAwake154 (.cons kAwake156 (.cons kAwake158 (.cons kAwake160 (.cons kAwake162 (.cons kAwake164 (.cons kAwake166 .nil)))))))))))))))) (l:=[KAwake135,KAwake137,KAwake139,KAwake141,KAwake143,KAwake145,KAwake147,KAwake149,KAwake151,KAwake153,KAwake155,KAwake157,KAwake159,KAwake161,KAwake35,KAwake163,KAwake165]) (.cons kAwake135 (.cons kAwake137 (.cons kAwake139 (.cons kAwake141 (.cons kAwake143 (.cons kAwake145 (.cons kAwake147 (.cons kAwake149 (.cons kAwake151 (.cons kAwake153 (.cons kAwake155 (.cons kAwake157 (.cons kAwake159 (.cons kAwake161 (.cons kAwake35 (.cons kAwake163 (.cons kAwake165 .nil))))))))))))))))) 3000 (by kernel_rfl)
def KAwake168:CF:=⟨74,[.agg wAwake10,vT],.tuple ⟨[.agg wAwake10,vI 0]⟩⟩
theorem kAwake168:KAwake168.Ok Try.prog:=CF.of2 noNG mixed (l:=[]) .nil 3000 (by kernel_rfl)
def KAwake169:CF:=⟨30,[.agg ⟨[vI 100,vI 1000,vI 50,lstV wAwake0 0 3 6,lstV wAwake1 0 4 5]⟩,vI 120,vI 150],.tuple ⟨[.agg wAwake10,vI 0]⟩⟩
theorem kAwake169:KAwake169.Ok Try.prog:=CF.ofH noNG mixed (hs:=[KAwake17,KAwake167,KAwake84,KAwake125]) (.cons kAwake17 (.cons kAwake167 (.cons kAwake84 (.cons kAwake125 .nil)))) (l:=[KAwake24,KAwake29,KAwake19,KAwake20,KAwake22,KAwake26,KAwake33,KAwake21,KAwake25,KAwake85,KAwake126,KAwake128,KAwake129,KAwake130,KAwake131,KAwake132,KAwake133,KAwake134,KAwake18,KAwake23,KAwake27,KAwake28,KAwake30,KAwake31,KAwake32,KAwake34,KAwake168,KAwake86,KAwake87,KAwake88,KAwake89,KAwake90,KAwake91,KAwake92,KAwake127]) (.cons kAwake24 (.cons kAwake29 (.cons kAwake19 (.cons kAwake20 (.cons kAwake22 (.cons kAwake26 (.cons kAwake33 (.cons kAwake21 (.cons kAwake25 (.cons kAwake85 (.cons kAwake126 (.cons kAwake128 (.cons kAwake129 (.cons kAwake130 (.cons kAwake131 (.cons kAwake132 (.cons kAwake133 (.cons kAwake134 (.cons kAwake18 (.cons kAwake23 (.cons kAwake27 (.cons kAwake28 (.cons kAwake30 (.cons kAwake31 (.cons kAwake32 (.cons kAwake34 (.cons kAwake168 (.cons kAwake86 (.cons kAwake87 (.cons kAwake88 (.cons kAwake89 (.cons kAwake90 (.cons kAwake91 (.cons kAwake92 (.cons kAwake127 .nil))))))))))))))))))))))))))))))))))) 3000 (by kernel_rfl)
def KAwake170:CF:=⟨71,[.agg ⟨[vI 100,vI 1000,vI 50,lstV wAwake0 0 3 6,lstV wAwake1 0 4 5]⟩,vI 30],vI 20500⟩
theorem kAwake170:KAwake170.Ok Try.prog:=CF.of2 noNG mixed (l:=[]) .nil 3000 (by kernel_rfl)
def KAwake171:CF:=⟨28,[.agg ⟨[vI 100,vI 1000,vI 50,lstV wAwake0 0 3 6,lstV wAwake1 0 4 5]⟩,vI 30],.tuple ⟨[vI 20500,vI 0]⟩⟩
theorem kAwake171:KAwake171.Ok Try.prog:=CF.of2 noNG mixed (l:=[KAwake170,KAwake11]) (.cons kAwake170 (.cons kAwake11 .nil)) 3000 (by kernel_rfl)
def KAwake172:CF:=⟨23,[.agg ⟨[vI 100,vI 1000,vI 50,lstV wAwake0 0 3 6,lstV wAwake1 0 4 5]⟩,vI 1],.tuple ⟨[vI 4000,vI 0]⟩⟩
theorem kAwake172:KAwake172.Ok Try.prog:=CF.of2 noNG mixed (l:=[KAwake11,KAwake14]) (.cons kAwake11 (.cons kAwake14 .nil)) 3000 (by kernel_rfl)
def KAwake173:CF:=⟨73,[.agg ⟨[vI 100,vI 1000,vI 50,lstV wAwake0 0 3 6,lstV wAwake1 0 4 5]⟩,vJ 0,vI 0],.tuple ⟨[.agg wAwake11,vI 7]⟩⟩
theorem kAwake173:KAwake173.Ok Try.prog:=CF.of2 noNG mixed (l:=[KAwake11]) (.cons kAwake11 .nil) 3000 (by kernel_rfl)
def KAwake174:CF:=⟨38,[.agg ⟨[vI 100,vI 1000,vI 50,lstV wAwake0 0 3 6,lstV wAwake1 0 4 5]⟩,vJ 0,vI 0],.tuple ⟨[vI 0,vI 7]⟩⟩
theorem kAwake174:KAwake174.Ok Try.prog:=CF.of2 noNG mixed (l:=[KAwake173]) (.cons kAwake173 .nil) 3000 (by kernel_rfl)
def KAwake175:CF:=⟨48,[vJ 599,vI 1000],.agg ⟨[vJ 599,vI 1000]⟩⟩
theorem kAwake175:KAwake175.Ok Try.prog:=CF.of2 noNG mixed (l:=[]) .nil 3000 (by kernel_rfl)
def KAwake176:CF:=⟨48,[vI 563,vI 1000],.agg ⟨[vI 563,vI 1000]⟩⟩
theorem kAwake176:KAwake176.Ok Try.prog:=CF.of2 noNG mixed (l:=[]) .nil 3000 (by kernel_rfl)
def KAwake177:CF:=⟨22,[],vT⟩
theorem kAwake177:KAwake177.Ok Try.prog:=CF.of2 noNG mixed (l:=[KAwake0,KAwake169,KAwake171,KAwake172,KAwake174,KAwake175,KAwake176]) (.cons kAwake0 (.cons kAwake169 (.cons kAwake171 (.cons kAwake172 (.cons kAwake174 (.cons kAwake175 (.cons kAwake176 .nil))))))) 3000 (by kernel_rfl)
end
end Go.Proofs.Ytmppkpdoonljpaa
namespace Go.Proofs.Ytmppkpdoonljpaa
open Go.Gi Go.RowKit
noncomputable section
structure R22 where
  r0:Bool
structure A22 where
def rt22:RT R22:=.leaf ⟨true⟩
def F22:Option R22:=rt22.val
def F22_ok:Bool:=F22.isSome
def F22_0:Bool:=match F22 with | some r=>r.r0 | none=>false
def dec22:Task→Option (A22×Hp)
  | .call g ⟨[]⟩ h=>(match Nat.beq g 22 with | true=>some (⟨⟩,h) | false=>none)
  | _=>none
def alt22 (_x:A22)(h:Hp):AT:=.br F22_ok (.leaf (.ret (.bool F22_0) h)) .no
def p22:Ans:=fnAns dec22 alt22
theorem hd22:∀(t:Task) (x:A22)(h:Hp),dec22 t=some (x,h)→t=.call 22 ⟨[]⟩ h:=by
  intro t x h e
  unfold dec22 at e
  split at e
  case h_2=>cases e
  split at e
  case h_2=>cases e
  rename_i hg
  simp only [Option.some.injEq,Prod.mk.injEq]at e
  obtain ⟨_,rfl⟩:=e
  rw [Nat.eq_of_beq_eq_true hg]
theorem known22:Known Try.prog p22:=by
  intro t x o h ho
  unfold p22 fnAns at h
  split at h
  · rename_i x' hp hd
    simp only [Option.some.injEq]at h
    subst h
    obtain rfl:=hd22 _ _ _ hd
    have h2:(alt22 x' hp).out=some (.ret (.bool true) hp):=rfl
    rw [h2]at ho
    cases ho
    exact kAwake177 hp
  · cases h
end
end Go.Proofs.Ytmppkpdoonljpaa
namespace Go.Proofs.Ytmppkpdoonljpaa
open Go.Gi Go.RowKit Go.Proofs.Ytmppkpdoonljpaa.Old
noncomputable section
set_option maxRecDepth 100000
set_option maxHeartbeats 4000000
structure R65 where
  r0:Bool
structure A65 where
  a0:Int
  a1:Int
def rt65 (a0:Int)(a1:Int):RT R65 :=
  .br (F58_ok a0 (0:Int) (IntKind.wrap .i64 (a1-(1:Int)))) (.leaf ⟨(F58_0 a0 (0:Int) (IntKind.wrap .i64 (a1-(1:Int))))⟩) (.no)
def en65 (r:R65):Value:=(.bool r.r0)
theorem T65  (a0:Int) (a1:Int):evC Try.prog (Ans.c p58) 60 (.call 65 ⟨[(.int .i64 a0),(.int .i64 a1)]⟩ ⟨[],0,[]⟩) (frzK [0])=(rt65 a0 a1).out (fun r=>.ret (en65 r) ⟨[],0,[]⟩):=by kernel_rfl
def F65 (a0:Int)(a1:Int):Option R65:=(rt65 a0 a1).val
section
variable (a0:Int) (a1:Int)
def F65_ok:Bool:=(F65 a0 a1).isSome
def F65_0:Bool:=match F65 a0 a1 with | some r=>r.r0 | none=>false
end
def dec65:Task→Option (A65×Hp)
  | .call g ⟨[(.int .i64 a0),(.int .i64 a1)]⟩ h=>(match Nat.beq g 65 with | true=>some (⟨a0,a1⟩,h) | false=>none)
  | _=>none
def alt65 (x:A65)(h:Hp):AT:=.br (F65_ok x.a0 x.a1) (.leaf (.ret (.bool (F65_0 x.a0 x.a1)) h)) .no
def p65:Ans:=fnAns dec65 alt65
theorem ha65:∀(x:A65) (h:Hp)(o:Out),(alt65 x h).out=some o→∃r,(rt65 x.a0 x.a1).val=some r∧o=.ret (en65 r) h:=by
  intro x h o e
  unfold alt65 at e
  simp only [AT.out]at e
  obtain ⟨g,e⟩:=cond_some e
  unfold F65_ok at g
  obtain ⟨r,hF⟩:=Option.isSome_iff_exists.1 g
  have hv:F65 x.a0 x.a1=(rt65 x.a0 x.a1).val:=by delta F65;exact rfl
  refine ⟨r,hv.symm.trans hF,?_⟩
  simp only [Option.some.injEq]at e
  rw [← e]
  have k0:F65_0 x.a0 x.a1=r.r0:=by
    show (match F65 x.a0 x.a1 with | some r=>r.r0 | none=>false)=r.r0
    rw [hF]
  rw [k0]<;>rfl
theorem hd65:∀(t:Task) (x:A65)(h:Hp),dec65 t=some (x,h)→t=.call 65 ⟨[(.int .i64 x.a0),(.int .i64 x.a1)]⟩ h:=by
  intro t x h e
  unfold dec65 at e
  split at e
  case h_2=>cases e
  split at e
  case h_2=>cases e
  rename_i hg
  simp only [Option.some.injEq,Prod.mk.injEq]at e
  obtain ⟨rfl,rfl⟩:=e
  rw [Nat.eq_of_beq_eq_true hg]
theorem known65:Known Try.prog p65:=by
  exact Known.fn noNG mixed known58 (n:=60) (zs:=[0]) 65 (fun x:A65=>[(.int .i64 x.a0),(.int .i64 x.a1)]) (fun x=>rt65 x.a0 x.a1) en65 (fun x=>T65  x.a0 x.a1) (fun x=>rfl) dec65 alt65 hd65 ha65
structure R100 where
  r0:Int
structure A100 where
  a0:Int
  a1:Int
def rt100 (a0:Int)(a1:Int):RT R100 :=
  .leaf ⟨(max (IntKind.wrap .i64 (a0-a1)) (IntKind.wrap .i64 (a1-a0)))⟩
def en100 (r:R100):Value:=(.int .i64 r.r0)
theorem T100  (a0:Int) (a1:Int):evC Try.prog (Ans.c (fun _=>none:Ans)) 60 (.call 100 ⟨[(.int .i64 a0),(.int .i64 a1)]⟩ ⟨[],0,[]⟩) (frzK [0])=(rt100 a0 a1).out (fun r=>.ret (en100 r) ⟨[],0,[]⟩):=by kernel_rfl
def F100 (a0:Int)(a1:Int):Option R100:=(rt100 a0 a1).val
section
variable (a0:Int) (a1:Int)
def F100_ok:Bool:=(F100 a0 a1).isSome
def F100_0:Int:=match F100 a0 a1 with | some r=>r.r0 | none=>0
end
def dec100:Task→Option (A100×Hp)
  | .call g ⟨[(.int .i64 a0),(.int .i64 a1)]⟩ h=>(match Nat.beq g 100 with | true=>some (⟨a0,a1⟩,h) | false=>none)
  | _=>none
def alt100 (x:A100)(h:Hp):AT:=.br (F100_ok x.a0 x.a1) (.leaf (.ret (.int .i64 (F100_0 x.a0 x.a1)) h)) .no
def p100:Ans:=fnAns dec100 alt100
theorem ha100:∀(x:A100) (h:Hp)(o:Out),(alt100 x h).out=some o→∃r,(rt100 x.a0 x.a1).val=some r∧o=.ret (en100 r) h:=by
  intro x h o e
  unfold alt100 at e
  simp only [AT.out]at e
  obtain ⟨g,e⟩:=cond_some e
  unfold F100_ok at g
  obtain ⟨r,hF⟩:=Option.isSome_iff_exists.1 g
  have hv:F100 x.a0 x.a1=(rt100 x.a0 x.a1).val:=by delta F100;exact rfl
  refine ⟨r,hv.symm.trans hF,?_⟩
  simp only [Option.some.injEq]at e
  rw [← e]
  have k0:F100_0 x.a0 x.a1=r.r0:=by
    show (match F100 x.a0 x.a1 with | some r=>r.r0 | none=>0)=r.r0
    rw [hF]
  rw [k0]<;>rfl
theorem hd100:∀(t:Task) (x:A100)(h:Hp),dec100 t=some (x,h)→t=.call 100 ⟨[(.int .i64 x.a0),(.int .i64 x.a1)]⟩ h:=by
  intro t x h e
  unfold dec100 at e
  split at e
  case h_2=>cases e
  split at e
  case h_2=>cases e
  rename_i hg
  simp only [Option.some.injEq,Prod.mk.injEq]at e
  obtain ⟨rfl,rfl⟩:=e
  rw [Nat.eq_of_beq_eq_true hg]
theorem known100:Known Try.prog p100:=by
  exact Known.fn noNG mixed (Known.nothing Try.prog) (n:=60) (zs:=[0]) 100 (fun x:A100=>[(.int .i64 x.a0),(.int .i64 x.a1)]) (fun x=>rt100 x.a0 x.a1) en100 (fun x=>T100  x.a0 x.a1) (fun x=>rfl) dec100 alt100 hd100 ha100
structure R101 where
  r0:Int
structure A101 where
  a0:Int
  a1:Int
def rt101 (a0:Int)(a1:Int):RT R101 :=
  .br (not (decide (a1=(0:Int)))) (.leaf ⟨(IntKind.wrap .i64 (Int.tdiv (IntKind.wrap .i64 ((IntKind.wrap .i64 (a0+a1))-(1:Int))) a1))⟩) (.no)
def en101 (r:R101):Value:=(.int .i64 r.r0)
theorem T101  (a0:Int) (a1:Int):evC Try.prog (Ans.c (fun _=>none:Ans)) 60 (.call 101 ⟨[(.int .i64 a0),(.int .i64 a1)]⟩ ⟨[],0,[]⟩) (frzK [0])=(rt101 a0 a1).out (fun r=>.ret (en101 r) ⟨[],0,[]⟩):=by kernel_rfl
def F101 (a0:Int)(a1:Int):Option R101:=(rt101 a0 a1).val
section
variable (a0:Int) (a1:Int)
def F101_ok:Bool:=(F101 a0 a1).isSome
def F101_0:Int:=match F101 a0 a1 with | some r=>r.r0 | none=>0
end
def dec101:Task→Option (A101×Hp)
  | .call g ⟨[(.int .i64 a0),(.int .i64 a1)]⟩ h=>(match Nat.beq g 101 with | true=>some (⟨a0,a1⟩,h) | false=>none)
  | _=>none
def alt101 (x:A101)(h:Hp):AT:=.br (F101_ok x.a0 x.a1) (.leaf (.ret (.int .i64 (F101_0 x.a0 x.a1)) h)) .no
def p101:Ans:=fnAns dec101 alt101
theorem ha101:∀(x:A101) (h:Hp)(o:Out),(alt101 x h).out=some o→∃r,(rt101 x.a0 x.a1).val=some r∧o=.ret (en101 r) h:=by
  intro x h o e
  unfold alt101 at e
  simp only [AT.out]at e
  obtain ⟨g,e⟩:=cond_some e
  unfold F101_ok at g
  obtain ⟨r,hF⟩:=Option.isSome_iff_exists.1 g
  have hv:F101 x.a0 x.a1=(rt101 x.a0 x.a1).val:=by delta F101;exact rfl
  refine ⟨r,hv.symm.trans hF,?_⟩
  simp only [Option.some.injEq]at e
  rw [← e]
  have k0:F101_0 x.a0 x.a1=r.r0:=by
    show (match F101 x.a0 x.a1 with | some r=>r.r0 | none=>0)=r.r0
    rw [hF]
  rw [k0]<;>rfl
theorem hd101:∀(t:Task) (x:A101)(h:Hp),dec101 t=some (x,h)→t=.call 101 ⟨[(.int .i64 x.a0),(.int .i64 x.a1)]⟩ h:=by
  intro t x h e
  unfold dec101 at e
  split at e
  case h_2=>cases e
  split at e
  case h_2=>cases e
  rename_i hg
  simp only [Option.some.injEq,Prod.mk.injEq]at e
  obtain ⟨rfl,rfl⟩:=e
  rw [Nat.eq_of_beq_eq_true hg]
theorem known101:Known Try.prog p101:=by
  exact Known.fn noNG mixed (Known.nothing Try.prog) (n:=60) (zs:=[0]) 101 (fun x:A101=>[(.int .i64 x.a0),(.int .i64 x.a1)]) (fun x=>rt101 x.a0 x.a1) en101 (fun x=>T101  x.a0 x.a1) (fun x=>rfl) dec101 alt101 hd101 ha101
end
end Go.Proofs.Ytmppkpdoonljpaa
