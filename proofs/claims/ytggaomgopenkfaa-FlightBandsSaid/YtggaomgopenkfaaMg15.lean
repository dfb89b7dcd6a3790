/- Part 15 of the texts below the claim. Conditions: none. -/
import Derived.Test.YtggaomgopenkfaaMg9
import Derived.Test.YtggaomgopenkfaaMg10
import Derived.Test.YtggaomgopenkfaaMg11
import Derived.Test.YtggaomgopenkfaaMg12
import Derived.Test.YtggaomgopenkfaaMg13
import Derived.Test.YtggaomgopenkfaaMg14
import Derived.Test.YtggaomgopenkfaaMg7
set_option linter.unusedVariables false
set_option linter.unusedSimpArgs false
namespace Go.Proofs.Ytggaomgopenkfaa
open Go.Gi Go.RowKit
noncomputable section
set_option maxRecDepth 100000
set_option maxHeartbeats 4000000
def KAwake296:CF:=⟨77,[.agg wAwake3,vI 0],.tuple ⟨[.agg ⟨[vI 0,vJ 78,vI 79,vI 0,vI 0,vI 40,vI 40]⟩,vI 0]⟩⟩
theorem kAwake296:KAwake296.Ok Try.prog:=CF.of2 noNG mixed (l:=[KAwake7,KAwake8,KAwake9,KAwake17,KAwake18,KAwake19,KAwake20,KAwake24,KAwake25,KAwake26,KAwake27,KAwake34,KAwake35,KAwake36,KAwake37,KAwake41,KAwake42,KAwake43,KAwake44,KAwake48,KAwake49,KAwake50,KAwake51,KAwake55,KAwake56,KAwake57,KAwake58,KAwake62,KAwake63,KAwake64,KAwake65,KAwake69,KAwake70,KAwake71,KAwake72,KAwake76,KAwake77,KAwake78,KAwake79,KAwake83,KAwake84,KAwake85,KAwake86,KAwake90,KAwake91,KAwake92,KAwake93,KAwake97,KAwake98,KAwake99,KAwake100,KAwake104,KAwake105,KAwake106,KAwake107,KAwake111,KAwake112,KAwake113,KAwake114,KAwake118,KAwake119,KAwake120,KAwake121,KAwake125,KAwake126,KAwake127,KAwake128,KAwake132,KAwake133,KAwake134,KAwake135,KAwake139,KAwake140,KAwake141,KAwake142,KAwake146,KAwake147,KAwake148,KAwake149,KAwake153,KAwake154,KAwake155,KAwake156,KAwake160,KAwake161,KAwake162,KAwake163,KAwake167,KAwake168,KAwake169,KAwake170,KAwake174,KAwake175,KAwake176,KAwake177,KAwake181,KAwake182,KAwake183,KAwake184,KAwake188,KAwake189,KAwake190,KAwake191,KAwake195,KAwake196,KAwake197,KAwake198,KAwake202,KAwake203,KAwake204,KAwake205,KAwake209,KAwake210,KAwake211,KAwake212,KAwake216,KAwake217,KAwake218,KAwake219,KAwake223,KAwake224,KAwake225,KAwake226,KAwake230,KAwake231,KAwake232,KAwake233,KAwake237,KAwake238,KAwake239,KAwake240,KAwake244,KAwake245,KAwake246,KAwake247,KAwake251,KAwake252,KAwake253,KAwake254,KAwake258,KAwake259,KAwake260,KAwake261,KAwake265,KAwake266,KAwake267,KAwake268,KAwake272,KAwake273,KAwake274,KAwake275,KAwake279,KAwake280,KAwake281,KAwake282,KAwake286,KAwake287,KAwake288,KAwake289,KAwake293,KAwake294,KAwake295]) (.cons kAwake7 (.cons kAwake8 (.cons kAwake9 (.cons kAwake17 (.cons kAwake18 (.cons kAwake19 (.cons kAwake20 (.cons kAwake24 (.cons kAwake25 (.cons kAwake26 (.cons kAwake27 (.cons kAwake34 (.cons kAwake35 (.cons kAwake36 (.cons kAwake37 (.cons kAwake41 (.cons kAwake42 (.cons kAwake43 (.cons kAwake44 (.cons kAwake48 (.cons kAwake49 (.cons kAwake50 (.cons kAwake51 (.cons kAwake55 (.cons kAwake56 (.cons kAwake57 (.cons kAwake58 (.cons kAwake62 (.cons kAwake63 (.cons kAwake64 (.cons kAwake65 (.cons kAwake69 (.cons kAwake70 (.cons kAwake71 (.cons kAwake72 (.cons kAwake76 (.cons kAwake77 (.cons kAwake78 (.cons kAwake79 (.cons kAwake83 (.cons kAwake84 (.cons kAwake85 (.cons kAwake86 (.cons kAwake90 (.cons kAwake91 (.cons kAwake92 (.cons kAwake93 (.cons kAwake97 (.cons kAwake98 (.cons kAwake99 (.cons kAwake100 (.cons kAwake104 (.cons kAwake105 (.cons kAwake106 (.cons kAwake107 (.cons kAwake111 (.cons kAwake112 (.cons kAwake113 (.cons kAwake114 (.cons kAwake118 (.cons kAwake119 (.cons kAwake120 (.cons kAwake121 (.cons kAwake125 (.cons kAwake126 (.cons kAwake127 (.cons kAwake128 (.cons kAwake132 (.cons kAwake133 (.cons kAwake134 (.cons kAwake135 (.cons kAwake139 (.cons kAwake140 (.cons kAwake141 (.cons kAwake142 (.cons kAwake146 (.cons kAwake147 (.cons kAwake148 (.cons kAwake149 (.cons kAwake153 (.cons kAwake154 (.cons kAwake155 (.cons kAwake156 (.cons kAwake160 (.cons kAwake161 (.cons kAwake162 (.cons kAwake163 (.cons kAwake167 (.cons kAwake168 (.cons kAwake169 (.cons kAwake170 (.cons kAwake174 (.cons kAwake175 (.cons kAwake176 (.cons kAwake177 (.cons kAwake181 (.cons kAwake182 (.cons kAwake183 (.cons kAwake184 (.cons kAwake188 (.cons kAwake189 (.cons kAwake190 (.cons kAwake191 (.cons kAwake195 (.cons kAwake196 (.cons kAwake197 (.cons kAwake198 (.cons kAwake202 (.cons kAwake203 (.cons kAwake204 (.cons kAwake205 (.cons kAwake209 (.cons kAwake210 (.cons kAwake211 (.cons kAwake212 (.cons kAwake216 (.cons kAwake217 (.cons kAwake218 (.cons kAwake219 (.cons kAwake223 (.cons kAwake224 (.cons kAwake225 (.cons kAwake226 (.cons kAwake230 (.cons kAwake231 (.cons kAwake232 (.cons kAwake233 (.cons kAwake237 (.cons kAwake238 (.cons kAwake239 (.cons kAwake240 (.cons kAwake244 (.cons kAwake245 (.cons kAwake246 (.cons kAwake247 (.cons kAwake251 (.cons kAwake252 (.cons kAwake253 (.cons kAwake254 (.cons kAwake258 (.cons kAwake259 (.cons kAwake260 (.cons kAwake261 (.cons kAwake265 (.cons kAwake266 (.cons kAwake267 (.cons kAwake268 (.cons kAwake272 (.cons kAwake273 (.cons kAwake274 (.cons kAwake275 (.cons kAwake279 (.cons kAwake280 (.cons kAwake281 (.cons kAwake282 (.cons kAwake286 (.cons kAwake287 (.cons kAwake288 (.cons kAwake289 (.cons kAwake293 (.cons kAwake294 (.cons kAwake295 .nil)))))))))))))))))))))))))))))))))))))))))))))))))))))))))))))))))))))))))))))))))))))))))))))))))))))))))))))))))))))))))))))))))))))))))))))))))))))))))))))))))) 3000 (by kernel_rfl)
def KAwake297:CF:=⟨33,[.agg wAwake1,.agg ⟨[vI 0,vI 0,vI 10000]⟩,lstV ⟨[vI 0,vI 100000,vI 300,vI 300,vI 0,vI 0]⟩ 0 1 6],.tuple ⟨[lstV ⟨[vI 0,vJ 78,vI 79,vI 0,vI 0,vI 40,vI 40]⟩ 0 1 7,vI 0]⟩⟩
theorem kAwake297:KAwake297.Ok Try.prog:=CF.of2 noNG mixed (l:=[KAwake296,KAwake5]) (.cons kAwake296 (.cons kAwake5 .nil)) 3000 (by kernel_rfl)
def KAwake298:CF:=⟨31,[],.agg wAwake47⟩
theorem kAwake298:KAwake298.Ok Try.prog:=CF.of2 noNG mixed (l:=[]) .nil 3000 (by kernel_rfl)
def KAwake299:CF:=⟨13,[.agg wAwake47],.tuple ⟨[vI 0,vI 0,vI 0]⟩⟩
theorem kAwake299:KAwake299.Ok Try.prog:=CF.of2 noNG mixed (l:=[]) .nil 3000 (by kernel_rfl)
def KAwake300:CF:=⟨63,[lstV ⟨[vI 0,vI 1000]⟩ 0 1 2],lstV ⟨[vI 0,vI 1000,vI 1000]⟩ 0 1 3⟩
theorem kAwake300:KAwake300.Ok Try.prog:=CF.of2 noNG mixed (l:=[]) .nil 3000 (by kernel_rfl)
def KAwake301:CF:=⟨66,[.agg wAwake47,.agg ⟨[vI 0,vI 0,vI 10000]⟩,lstV ⟨[vI 0,vI 100000,vI 300,vI 300,vI 0,vI 0]⟩ 0 1 6],.tuple ⟨[.agg wAwake48,vI 0]⟩⟩
theorem kAwake301:KAwake301.Ok Try.prog:=CF.of2 noNG mixed (l:=[KAwake3,KAwake299,KAwake300]) (.cons kAwake3 (.cons kAwake299 (.cons kAwake300 .nil))) 3000 (by kernel_rfl)
def KAwake302:CF:=⟨68,[.agg wAwake49],vF⟩
theorem kAwake302:KAwake302.Ok Try.prog:=CF.of2 noNG mixed (l:=[]) .nil 3000 (by kernel_rfl)
def KAwake303:CF:=⟨70,[lstV wAwake46 0 1 13,vI 2],.agg wAwake50⟩
theorem kAwake303:KAwake303.Ok Try.prog:=CF.of2 noNG mixed (l:=[]) .nil 3000 (by kernel_rfl)
def KAwake304:CF:=⟨97,[.agg wAwake48,.agg wAwake50],.agg ⟨[vI 0,vI 0,vI 0,vI 0,vI 0,vI 0]⟩⟩
theorem kAwake304:KAwake304.Ok Try.prog:=CF.of2 noNG mixed (l:=[KAwake28,KAwake29]) (.cons kAwake28 (.cons kAwake29 .nil)) 3000 (by kernel_rfl)
def KAwake305:CF:=⟨116,[.agg ⟨[vJ 299,vJ 299,vI 0,vI 0,vI 10000,vI 10000]⟩],.agg ⟨[vI 10004,vI 10005]⟩⟩
theorem kAwake305:KAwake305.Ok Try.prog:=CF.of2 noNG mixed (l:=[]) .nil 3000 (by kernel_rfl)
def KAwake306:CF:=⟨112,[.agg ⟨[vJ 299,vJ 299,vI 0,vI 0,vI 10000,vI 10000]⟩,.func (.func 111) ⟨[]⟩ ⟨[]⟩,.agg ⟨[vI 100040000,vI 100050000]⟩],.agg wAwake51⟩
theorem kAwake306:KAwake306.Ok Try.prog:=CF.of2 noNG mixed (l:=[]) .nil 3000 (by kernel_rfl)
def KAwake307:CF:=⟨112,[.agg wAwake51,.func (.func 113) ⟨[]⟩ ⟨[]⟩,.agg ⟨[vI 10000000000,vI 10000000000]⟩],.agg ⟨[vJ 3,vJ 2,vI 0,vI 0,vI 100,vI 101]⟩⟩
theorem kAwake307:KAwake307.Ok Try.prog:=CF.of2 noNG mixed (l:=[]) .nil 3000 (by kernel_rfl)
def KAwake308:CF:=⟨99,[.agg wAwake48,.agg wAwake50,.agg wAwake49],.agg ⟨[vJ 3,vJ 2,vI 0,vI 0,vI 100,vI 101]⟩⟩
theorem kAwake308:KAwake308.Ok Try.prog:=CF.of2 noNG mixed (l:=[KAwake305,KAwake306,KAwake307]) (.cons kAwake305 (.cons kAwake306 (.cons kAwake307 .nil))) 3000 (by kernel_rfl)
def KAwake309:CF:=⟨69,[.agg wAwake48,.agg wAwake50,.agg wAwake49],.agg ⟨[vI 3,vI 4,vI 0,vI 0,vJ 198,vJ 197]⟩⟩
theorem kAwake309:KAwake309.Ok Try.prog:=CF.of2 noNG mixed (l:=[KAwake304,KAwake308]) (.cons kAwake304 (.cons kAwake308 .nil)) 3000 (by kernel_rfl)
def KAwake310:CF:=⟨25,[.agg wAwake47,.agg ⟨[vI 0,vI 0,vI 10000]⟩,lstV ⟨[vI 0,vI 100000,vI 300,vI 300,vI 0,vI 0]⟩ 0 1 6,vI 2,.agg wAwake49],.tuple ⟨[.agg ⟨[vI 3,vI 4,vI 0,vI 0,vJ 198,vJ 197]⟩,vI 0]⟩⟩
theorem kAwake310:KAwake310.Ok Try.prog:=CF.of2 noNG mixed (l:=[KAwake309,KAwake301,KAwake302,KAwake303]) (.cons kAwake309 (.cons kAwake301 (.cons kAwake302 (.cons kAwake303 .nil)))) 3000 (by kernel_rfl)
def KAwake311:CF:=⟨27,[.agg wAwake1,.agg ⟨[vI 0,vI 0,vI 10000]⟩,lstV ⟨[vI 0,vI 100000,vI 300,vI 300,vI 0,vI 0]⟩ 0 1 6,vJ 0],.tuple ⟨[.slice none 0 0,vI 7]⟩⟩
theorem kAwake311:KAwake311.Ok Try.prog:=CF.of2 noNG mixed (l:=[KAwake5]) (.cons kAwake5 .nil) 3000 (by kernel_rfl)
def KAwake312:CF:=⟨17,[],vT⟩
theorem kAwake312:KAwake312.Ok Try.prog:=CF.of2 noNG mixed (l:=[KAwake1,KAwake0,KAwake297,KAwake298,KAwake310,KAwake311]) (.cons kAwake1 (.cons kAwake0 (.cons kAwake297 (.cons kAwake298 (.cons kAwake310 (.cons kAwake311 .nil)))))) 3000 (by kernel_rfl)
end
end Go.Proofs.Ytggaomgopenkfaa
namespace Go.Proofs.Ytggaomgopenkfaa
open Go.Gi Go.RowKit
noncomputable section
structure R17 where
 (r0:Bool)
structure A17 where
def rt17:RT R17:=.leaf ⟨true⟩
def F17:Option R17:=rt17.val
def F17_ok:Bool:=F17.isSome
def F17_0:Bool:=match F17 with | some r=>r.r0 | none=>false
def dec17:Task→Option (A17×Hp)
 | .call g ⟨[]⟩ h=>(match Nat.beq g 17 with | true=>some (⟨⟩,h) | false=>none)
 | _=>none
def alt17 (_x:A17)(h:Hp):AT:=.br F17_ok (.leaf (.ret (.bool F17_0) h)) .no
def p17:Ans:=fnAns dec17 alt17
theorem hd17:∀(t:Task) (x:A17)(h:Hp),dec17 t=some (x,h)→t=.call 17 ⟨[]⟩ h:=by
 intro t x h e;unfold dec17 at e
 split at e
 case h_2=>cases e
 split at e
 case h_2=>cases e
 rename_i hg;simp only[Option.some.injEq,Prod.mk.injEq]at e;obtain ⟨_,rfl⟩:=e;rw[Nat.eq_of_beq_eq_true hg]
theorem known17:Known Try.prog p17:=by
 intro t x o h ho;unfold p17 fnAns at h
 split at h
 ·rename_i x' hp hd
  simp only[Option.some.injEq]at h;subst h;obtain rfl:=hd17 _ _ _ hd;have h2:(alt17 x' hp).out=some (.ret (.bool true) hp):=rfl;rw[h2]at ho
  cases ho
  exact kAwake312 hp
 ·cases h
end
end Go.Proofs.Ytggaomgopenkfaa
namespace Go.Gi
open Go.RowKit
noncomputable section
def boxD (m:Nat):Ob→Bool
  | .dead=>true
  | ob=>boxB m ob
theorem boxD_live {m:Nat}{ob:Ob}(h:boxD m ob=true) (hl:ob.live=true):ob.rw=true∧obSc m ob=true:=by
  cases ob with
  | dead=>cases hl
  | _ =>
    simp only[boxD,boxB,Bool.and_eq_true]at h;exact ⟨h.1.2,h.2⟩
section
variable {K:Nat→Prop}{w0 w:World} {φ ψ:Phi}{X H2:List Ob} {κ:Nat→Nat}
theorem Inv.view (hF:Inv K w0 φ X w)
    (hv:∀(i:Nat) (ob:Ob),H2[i]?=some ob→ob.live=true→∃ob',X[κ i]?=some ob'∧ob'.live=true∧(ob.rw=true→ob'.rw=true)∧ψ i=φ (κ i)∧∀B base tot,ObR φ w ob' B base tot→ObR ψ w ob B base tot)
    (hi:∀(i i':Nat) (ob ob':Ob),H2[i]?=some ob→H2[i']?=some ob'→ob.live=true→ob'.live=true→κ i=κ i'→i=i')
    (ht:∀i,H2.length≤i→ψ i=none) (hz:∀B o,ψ.z B=some o→w.heap[B]?=some o)
    (hs:∀(i:Nat) (ob:Ob) (x:Nat×Nat×Nat),H2[i]?=some ob→ob.rw=true→ψ i=some x→ψ.z x.1=none) (hk:∀k,K k→ψ.z k=none):Inv K w0 ψ H2 w:=by
  refine ⟨?_,?_,?_,hF.keep,hF.klt,hF.size,hF.os,hF.tape,hF.output,ht,hz,hs,hk⟩
  · intro i ob h1 h2
    obtain ⟨ob',k1,k2,_,k4,k5⟩:=hv i ob h1 h2;obtain ⟨B,base,tot,q1,q2⟩:=hF.obs _ ob' k1 k2;exact ⟨B,base,tot,k4.trans q1,k5 _ _ _ q2⟩
  · intro i i' ob ob' x y hne h1 h1' hrw hl hx hy
    obtain ⟨o1,k1,k2,k3,k4,_⟩:=hv i ob h1 (Ob.live_of_rw hrw);obtain ⟨o2,l1,l2,_,l4,_⟩:=hv i' ob' h1' hl
    exact hF.sep _ _ o1 o2 x y (fun he=>hne (hi i i' ob ob' h1 h1' (Ob.live_of_rw hrw) hl he)) k1 l1 (k3 hrw) l2 (k4 ▸ hx) (l4 ▸ hy)
  · intro i ob x h1 hrw hx
    obtain ⟨o1,k1,_,k3,k4,_⟩:=hv i ob h1 (Ob.live_of_rw hrw);exact hF.prot _ o1 x k1 (k3 hrw) (k4 ▸ hx)
theorem zF_frz (hF:Inv K w0 φ X w)(m:Nat):∀B o,zF φ X m w B=some o→w.heap[B]?=some o:=by
  intro B o hB;unfold zF at hB
  split at hB
  · exact hB
  · exact hF.frz B o hB
theorem zF_sep (hF:Inv K w0 φ X w) {m b:Nat}{ob:Ob}{x:Nat×Nat×Nat}(h1:b<m) (h2:X[b]?=some ob) (hrw:ob.rw=true) (hx2:φ b=some x):zF φ X m w x.1=none:=by
  unfold zF;rw[if_neg]
  · exact hF.zsep b ob x h2 hrw hx2
  · rintro ⟨b',ob',x',k1,k2,k3,k4,k5⟩
    exact hF.sep b b' ob ob' x x' (by omega) h2 k2 hrw (Ob.live_of_rw k3) hx2 k4 k5.symm
theorem VRs.picks {tm:Array Value}:∀(pk:List Nat) (vs:List Value) (T:List Value),VRs ψ T.toArray tm→VRl ψ vs (pk.map fun i=>tm.getD i undef)→vs.all (fun v=>notU v)=true→VRs ψ (sets T (pk.zip vs)).toArray tm:=by
  intro pk
  induction pk with
  | nil=>intro vs T h _ _;cases vs<;>exact h
  | cons i r ih =>
    intro vs T h hv hall
    cases hv with
    | cons h1' h2' =>
      rename_i v vs';simp only[List.all_cons,Bool.and_eq_true]at hall
      refine ih vs' _ ?_ h2' hall.2
      rcases Nat.lt_or_ge i tm.size with hi | hi
      · have e:tm=tm.setIfInBounds i (tm.getD i undef):=by
          apply Array.ext_getElem?
          intro q
          rw[Array.getElem?_setIfInBounds]
          split
          · rename_i hq
            subst hq
            first
            | (rw[Array.getElem?_eq_getElem hi];rfl)
            | (rw[if_pos hi,Array.getD_eq_getD_getElem?,Array.getElem?_eq_getElem hi];rfl)
          · rfl
        rw[lset_eq];have:=h.set h1' i;rw[← e]at this;exact this
      · have hT:T.length≤i:=by have:=h.size;simp at this;omega
        have e:lset T i v=T:=by rw[lset_set,List.set_eq_of_length_le hT]
        rw[e];exact h
theorem VRs.lo {LL:List Value}{N:Nat}{tm:Array Value}(hl:LL.length=N) (h:VRs φ LL.toArray tm):VRs ψ (junkF N (LL.map Go.Gi.lo)).toArray tm:=by
  rw[junkF_eq (by simpa using hl)]
  intro i;have hVi:=h i
  rw[List.getElem?_toArray]at hVi ⊢
  rw[List.getElem?_map]
  generalize LL[i]?=q at hVi
  generalize tm[i]?=q' at hVi ⊢
  cases hVi with
  | none=>exact .none
  | some h=>exact .some (cl_vr h)
end
def obCells:Ob→Option (List Value)
  | .cells ⟨c⟩ false=>some c
  | .loop _ _ ⟨t⟩ _ _ _ _=>some t
  | _=>none
def obPut:Ob→List Value→Ob
  | .cells _ r,c=>.cells ⟨c⟩ r
  | .loop st pend _ ps asn bd d,c=>.loop st pend ⟨c⟩ ps asn bd d
  | ob,_=>ob
theorem obPut_cells {ob:Ob}{cq:List Value}(h:obCells ob=some cq) (c:List Value):obCells (obPut ob c)=some c:=by
  unfold obCells at h
  split at h
  · rfl
  · rfl
  · cases h
theorem obPut_live {ob:Ob}{cq:List Value}(h:obCells ob=some cq):ob.live=true∧ob.rw=true∧∀c,(obPut ob c).live=true∧(obPut ob c).rw=true:=by
  unfold obCells at h
  split at h
  · exact ⟨rfl,rfl,fun c=>⟨rfl,rfl⟩⟩
  · exact ⟨rfl,rfl,fun c=>⟨rfl,rfl⟩⟩
  · cases h
theorem obPut_same {o1 o2:Ob}{c1 c2 x1 x2:List Value}(h1:obCells o1=some c1) (h2:obCells o2=some c2) (h:obPut o1 x1=obPut o2 x2):x1=x2∧∀z,obPut o1 z=obPut o2 z:=by
  unfold obCells at h1 h2
  split at h1
  · split at h2
    · simp only[obPut,Ob.cells.injEq,Array.mk.injEq,and_true]at h
      exact ⟨h,fun z=>rfl⟩
    · simp [obPut]at h
    · cases h2
  · split at h2
    · simp [obPut]at h
    · simp only[obPut,Ob.loop.injEq,Array.mk.injEq]at h
      obtain ⟨a1,a2,a3,a4,a5,a6,a7⟩:=h
      refine ⟨a3,fun z=>?_⟩
      simp only[obPut,a1,a2,a4,a5,a6,a7]
    · cases h2
  · cases h1
theorem obPut_self {ob:Ob}{cq:List Value}(h:obCells ob=some cq):obPut ob cq=ob:=by
  unfold obCells at h
  split at h
  · simp only[Option.some.injEq]at h;subst h;rfl
  · simp only[Option.some.injEq]at h;subst h;rfl
  · cases h
section
variable {φ ψ:Phi}{w:World}{B base tot n:Nat}
theorem obR_put {ob:Ob}{cq c2:List Value}(h:obCells ob=some cq) (hl:c2.length=cq.length) (hc:∀(k:Nat) (u u2:Value),cq[k]?=some u→c2[k]?=some u2→∀v',VR φ u v'→VR ψ u2 v') (hle:le (cut φ n) ψ)
    (hs:∃z,obSc n (obPut ob z)=true) (hr:ObR φ w ob B base tot):ObR ψ w (obPut ob c2) B base tot:=by
  unfold obCells at h
  split at h
  · rename_i c
    simp only[Option.some.injEq]at h;subst h;obtain ⟨C,el,fr,r1,r2,r3⟩:=hr
    refine ⟨C,el,fr,r1,fun k u hu=>?_,fun hh=>?_⟩
    · simp only[List.getElem?_toArray]at hu
      have hk:k<c.length:=by have:=lt_of_get hu;omega
      obtain ⟨v',r4,r5⟩:=r2 k c[k] (by rw[List.getElem?_toArray];exact List.getElem?_eq_getElem hk)
      exact ⟨v',r4,hc k _ u (List.getElem?_eq_getElem hk) hu v' r5⟩
    · have:=r3 hh
      simp only[List.size_toArray]at this ⊢;rw[hl];exact this
  · rename_i st pend c ps asn bd d
    simp only[Option.some.injEq]at h;subst h;obtain ⟨r0,fn,tm,D,r1,r2,td,r3⟩:=hr
    refine ⟨r0,fn,tm,D,r1,fun k=>?_,td,hle.fn _ _ ?_⟩
    · have hk:=r2 k
      rw[List.getElem?_toArray]at hk ⊢
      rcases Nat.lt_or_ge k c.length with h1 | h1
      · have e1:c[k]?=some c[k]:=List.getElem?_eq_getElem h1
        have e2:c2[k]?=some (c2[k]'(by omega)):=List.getElem?_eq_getElem (by omega)
        rw[e1]at hk;rw[e2]
        generalize tm[k]?=y at hk
        cases hk with
        | some hv=>exact .some (hc k _ _ e1 e2 _ hv)
      · rw[List.getElem?_eq_none h1]at hk
        rw[List.getElem?_eq_none (by omega)]
        generalize tm[k]?=y at hk
        cases hk;exact .none
    · obtain ⟨z,hs⟩:=hs
      simp only[obPut,obSc,Bool.and_eq_true,decide_eq_true_eq]at hs;exact (cut_lt hs.2).trans r3
  · cases h
end
theorem obCells_sc {ob:Ob}{cq:List Value}{n k:Nat} {u v':Value} {φ:Phi}(h:obCells ob=some cq) (hs:obSc n ob=true) (hu:cq[k]?=some u) (hv:VR φ u v'):VR (cut φ n) u v':=by
  unfold obCells at h
  split at h
  · simp only[Option.some.injEq]at h;subst h
    simp only[obSc,List.all_eq_true]at hs;exact sc1_cut (hs u (List.mem_of_getElem? hu)) hv
  · simp only[Option.some.injEq]at h;subst h
    simp only[obSc,Bool.and_eq_true,List.all_eq_true]at hs;exact scT_cut (hs.1 u (List.mem_of_getElem? hu)) hv
  · cases h
inductive Fgl:List Value→List Value→Prop
  | nil:Fgl [] []
  | same {v:Value} {l l':List Value} (h:Fgl l l'):Fgl (v::l) (v::l')
  | lo {v u:Value} {l l':List Value} (e:Go.Gi.lo v=u) (h:Fgl l l'):Fgl (v::l) (u::l')
theorem Fgl.get {φ:Phi} {l l':List Value}(h:Fgl l l'):∀{x:Array Value},VRs φ l.toArray x→VRs φ l'.toArray x:=by
  have key:∀{l l':List Value},Fgl l l'→∀i:Nat,OR (fun v u=>∀x,VR φ v x→VR φ u x) l[i]? l'[i]?:=by
    intro l l' h
    induction h with
    | nil=>intro i;simp;exact .none
    | same _ ih =>
      intro i
      cases i with
      | zero=>simp only[List.getElem?_cons_zero];exact .some fun x h=>h
      | succ i=>simpa using ih i
    | lo e _ ih =>
      intro i
      cases i with
      | zero=>simp only[List.getElem?_cons_zero];exact .some fun x h=>e ▸ cl_vr h
      | succ i=>simpa using ih i
  intro x hx i;have h1:=key h i;have h2:=hx i
  rw[List.getElem?_toArray]at h2 ⊢
  generalize l[i]?=a at h1 h2
  generalize l'[i]?=b at h1 ⊢
  generalize x[i]?=y at h2 ⊢
  cases h1 with
  | none=>cases h2;exact .none
  | some h3=>cases h2 with
    | some h4=>exact .some (h3 _ h4)
inductive Forgets:List Ob→List Ob→Prop
  | nil:Forgets [] []
  | same {o:Ob} {l l':List Ob} (h:Forgets l l'):Forgets (o::l) (o::l')
  | loop {st:LoopState} {pend:Option Code} {t t':List Value} {ps:Array Tmp} {asn bd:Code} {d:Nat} {l l':List Ob} (e:Fgl t t') (h:Forgets l l'):Forgets (.loop st pend ⟨t⟩ ps asn bd d::l) (.loop st pend ⟨t'⟩ ps asn bd d::l')
theorem Forgets.len {H' H:List Ob}(h:Forgets H' H):H'.length=H.length:=by
  induction h with
  | nil=>rfl
  | same _ ih=>simp [ih]
  | loop _ _ ih=>simp [ih]
theorem Forgets.refl:∀H:List Ob,Forgets H H
  | []=>.nil
  | _::r=>.same (Forgets.refl r)
theorem Forgets.get {H' H:List Ob}(h:Forgets H' H):∀(i:Nat) (ob:Ob),H[i]?=some ob→∃ob',H'[i]?=some ob'∧ob'.live=ob.live∧ob'.rw=ob.rw∧(ob.rw=false→ob'=ob)∧∀(φ:Phi) (w:World) (B base tot:Nat),ObR φ w ob' B base tot→ObR φ w ob B base tot:=by
  induction h with
  | nil=>intro i ob h;simp at h
  | same _ ih =>
    intro i ob hi
    cases i with
    | zero=>simp only[List.getElem?_cons_zero,Option.some.injEq]at hi;subst hi;exact ⟨_,rfl,rfl,rfl,fun _=>rfl,fun _ _ _ _ _ h=>h⟩
    | succ i=>exact ih i ob (by simpa using hi)
  | loop e _ ih =>
    intro i ob hi
    cases i with
    | zero =>
      simp only[List.getElem?_cons_zero,Option.some.injEq]at hi;subst hi
      refine ⟨_,rfl,rfl,rfl,fun h=>(by cases h),?_⟩
      rintro φ w B base tot ⟨r0,fn,tm,D,r1,r2,r3⟩
      exact ⟨r0,fn,tm,D,r1,e.get r2,r3⟩
    | succ i=>exact ih i ob (by simpa using hi)
theorem Forgets.inv {K:Nat→Prop}{w0 w:World} {φ:Phi} {H' H:List Ob}(h:Forgets H' H) (hI:Inv K w0 φ H' w):Inv K w0 φ H w:=by
  refine hI.view (κ:=id) (fun i ob hi hl=>?_) (fun i i' _ _ _ _ _ _ h=>h) (fun i hi=>hI.top i (by rw[h.len];exact hi)) hI.frz (fun i ob x hi hrw hx=>?_) hI.zk
  · obtain ⟨ob',h1,h2,h3,_,h4⟩:=h.get i ob hi
    exact ⟨ob',h1,h2.trans hl,fun h=>h3.trans h,rfl,fun B base tot hr=>h4 φ w B base tot hr⟩
  · obtain ⟨ob',h1,h2,h3,_,h4⟩:=h.get i ob hi
    exact hI.zsep i ob' x h1 (h3.trans hrw) hx
theorem Forgets.ro {H' H:List Ob}{b:Nat}{ob:Ob}(h:Forgets H' H) (hr:ob.rw=false) (hb:H[b]?=some ob):H'[b]?=some ob:=by
  obtain ⟨ob',h1,_,_,h4,_⟩:=h.get b ob hb;rw[h1,h4 hr]
def gB:List Nat→List Ob→Bool
  | [],_=>true
  | b::r,H=>(match nthO H b with | some (.cells a false)=>allFz a | _=>false)&&gB r H
def gC (H:List Ob)(k:Option Out):List Nat→Option Out
  | []=>k
  | b::r=>match nthO H b with
    | some (.cells a false)=>cond (allFz a) (gC H k r) none
    | _=>none
theorem gC_ok {H:List Ob}{k:Option Out}{o:Out}:∀{Bs:List Nat},gC H k Bs=some o→gB Bs H=true∧k=some o
  | [],h=>⟨rfl,h⟩
  | b::r,h=>by
    unfold gC at h;unfold gB
    split at h
    · rename_i a hb
      obtain ⟨h1,h2⟩:=cond_some h;obtain ⟨h3,h4⟩:=gC_ok h2
      exact ⟨by rw[h1,h3];rfl,h4⟩
    · cases h
section
variable {X D:Type}
structure LoopS (X D:Type) where
  c:Code
  N:Nat
  M:Nat
  S:List Nat
  Bs:List Nat
  q:Option (Nat×Nat)
  sz:Nat
  z:Nat
  sl:X→List Value
  hp:X→Value→List Ob
  own:X→Option (Array Value×Nat)
  ex:D→Ex
  pick:Ex→List Nat
  dv:D→List Value
  dh:D→List Ob
def LoopS.ownB (L:LoopS X D)(x:X):List Ob:=match L.own x with
  | none=>[]
  | some (a,_)=>[.cells a false]
def LoopS.ownV (L:LoopS X D)(x:X):Value:=match L.own x with
  | none=>.slice none 0 0
  | some (_,l)=>.slice (some ⟨L.M,0,none⟩) l L.sz
def LoopS.H (L:LoopS X D)(x:X):List Ob:=L.hp x (L.ownV x)++L.ownB x
def LoopS.good (L:LoopS X D)(x:X):Prop:=gB L.Bs (L.hp x (L.ownV x))=true∧∀a l,L.own x=some (a,l)→allFz a=true
def LoopS.encS (L:LoopS X D):Sum X D→Out
  | .inl x=>.ex .normal ⟨L.sl x,[],⟨L.H x,L.N,[]⟩⟩
  | .inr d=>.ex (L.ex d) ⟨L.dv d,[],⟨L.dh d,L.N,[]⟩⟩
def LoopS.headS (L:LoopS X D)(x:X)(j:List Value):Task:=.code none L.c ⟨sets (junkF L.N j) (L.S.zip (L.sl x)),[],⟨L.H x,0,[]⟩⟩
def LoopS.tailS (L:LoopS X D)(x:X)(d:D)(j:List Value):Out:=.ex (L.ex d) ⟨sets (junkF L.N j) ((L.pick (L.ex d)).zip (L.dv d)),[],⟨L.dh d++List.replicate (L.ownB x).length .dead,0,[]⟩⟩
def kS (N M:Nat)(S:List Nat)(pick:Ex→List Nat)(Bs:List Nat)(z:Nat)(q:Option (Nat×Nat)):Kn
  | .ex e s=>match s.d,lenIs s.t N with
    | [],true=>(match e with
      | .normal=>(match q with
        | none=>gC (s.h.bl.take M) (some (.ex .normal ⟨S.map (lget s.t),[],⟨s.h.bl.take M,N,s.h.wr⟩⟩)) Bs
        | some (q,j)=>(match nthO s.h.bl q with
          | some ob=>(match obCells ob with
            | some cq=>(match lget cq j with
              | .slice none 0 0=>gC (s.h.bl.take M) (some (.ex .normal ⟨S.map (lget s.t),[],⟨s.h.bl.take M,N,s.h.wr⟩⟩)) Bs
              | .slice (some ⟨b,0,none⟩) l zz=>(match Nat.ble M b,nthO s.h.bl b with
                | true,some (.cells a false)=>cond (allFz a) (gC ((s.h.bl.take M).set q (obPut ob (lset cq j (.slice (some ⟨M,0,none⟩) l zz)))) (some (.ex .normal ⟨S.map (lget s.t),[],⟨(s.h.bl.take M).set q (obPut ob (lset cq j (.slice (some ⟨M,0,none⟩) l zz)))++[.cells a false],N,s.h.wr⟩⟩)) Bs) none
                | _,_=>none)
              | _=>none)
            | _=>none)
          | _=>none))
      | e=>(match q with
        | none=>gC (s.h.bl.take M) (some (.ex e ⟨(pick e).map (lget s.t),[],⟨s.h.bl.take M,N,s.h.wr⟩⟩)) Bs
        | some (q,j)=>(match nthO s.h.bl q with
          | some ob=>(match obCells ob with
            | some cq=>frzG M z s.h.bl [lget cq j] fun us=>frzG M z s.h.bl ((pick e).map (lget s.t)) fun vs =>
                gC ((s.h.bl.take M).set q (obPut ob (lset cq j (us.headD undef)))) (some (.ex e ⟨vs,[],⟨(s.h.bl.take M).set q (obPut ob (lset cq j (us.headD undef))),N,s.h.wr⟩⟩)) Bs
            | _=>none)
          | _=>none)))
    | _,_=>none
  | _=>none
structure LoopS.OkS (L:LoopS X D):Prop where
  s2:∀x,(L.sl x).all (fun v=>notU v&&scT L.M v)=true
  s1:∀x,(L.sl x).length=L.S.length
  h1:∀x v,(L.hp x v).length=L.M
  h2:∀x,gB L.Bs (L.hp x (.slice none 0 0))=true→(L.hp x (.slice none 0 0)).all (boxD L.M)=true
  h3:∀x v,match L.q with
    | none=>L.hp x v=L.hp x (.slice none 0 0)
    | some (q,j)=>∃(ob0:Ob) (cs:List Value),(L.hp x (.slice none 0 0))[q]?=some ob0∧obCells ob0=some cs∧j<cs.length∧L.hp x v=(L.hp x (.slice none 0 0)).set q (obPut ob0 (cs.set j v))
  h4:∀x v,gB L.Bs (L.hp x v)=gB L.Bs (L.hp x (.slice none 0 0))
  qM:∀q j,L.q=some (q,j)→q<L.M
  d1:∀d,(L.dv d).all (fun v=>notU v&&scT L.M v)=true
  d2:∀d,(L.dh d).length=L.M
  d3:∀d,gB L.Bs (L.dh d)=true→(L.dh d).all (boxD L.M)=true
  e1:∀d,L.ex d≠.normal
  e2:∀d,noPanic (L.ex d)=true
  e3:∀d,(L.pick (L.ex d)).length=(L.dv d).length
  nd:L.S.Nodup
  lt:∀k∈L.S,k<L.N
theorem LoopS.own_cases {L:LoopS X D}(x:X):(L.own x=none∧L.ownB x=[]∧L.ownV x=.slice none 0 0)∨∃a l,L.own x=some (a,l)∧L.ownB x=[.cells a false]∧L.ownV x=.slice (some ⟨L.M,0,none⟩) l L.sz:=by
  unfold LoopS.ownB LoopS.ownV
  cases h:L.own x with
  | none=>exact .inl ⟨rfl,rfl,rfl⟩
  | some al=>obtain ⟨a,l⟩:=al;exact .inr ⟨a,l,rfl,rfl,rfl⟩
theorem all_boxD {m:Nat}{H:List Ob}(h:H.all (boxD m)=true) {i:Nat}{ob:Ob}(hi:H[i]?=some ob):boxD m ob=true:=by
  rw[List.all_eq_true]at h;exact h ob (List.mem_of_getElem? hi)
def turnP (φ:Phi)(M b:Nat)(o:Bool):Phi:=⟨fun i=>if i<M then φ i else if i=M∧o=true then φ b else none,φ.z⟩
theorem turn_le {φ:Phi}{M b:Nat}{o:Bool}:le (cut φ M) (turnP φ M b o):=by
  refine ⟨fun i y hi=>?_,fun B o hB=>hB⟩
  rcases Nat.lt_or_ge i M with h | h
  · rw[cut_lt h]at hi
    show (if i<M then φ i else _)=some y
    rw[if_pos h];exact hi
  · rw[cut_ge h]at hi;cases hi
theorem take_get {bl H1:List Ob}{M:Nat}(h:bl.take M=H1) {b:Nat}{ob:Ob}(hb:H1[b]?=some ob):b<M∧bl[b]?=some ob:=by
  rw[← h,List.getElem?_take]at hb
  split at hb
  · exact ⟨by assumption,hb⟩
  · cases hb
theorem LoopS.same {L:LoopS X D}(ok:L.OkS) {x:X}{bl:List Ob}(ho:L.own x=none) (e:bl.take L.M=L.H x) (hg:gB L.Bs (bl.take L.M)=true) :
    L.good x∧∀(K:Nat→Prop) (w0:World) (φ:Phi) (w:World),Inv K w0 φ bl w→Inv K w0 (turnP φ L.M 0 false) (L.H x) w:=by
  have hV:L.ownV x=.slice none 0 0:=by unfold LoopS.ownV;rw[ho]
  have hB:L.ownB x=[]:=by unfold LoopS.ownB;rw[ho]
  have hH:L.H x=L.hp x (.slice none 0 0):=by unfold LoopS.H;rw[hV,hB,List.append_nil]
  have hgb:gB L.Bs (L.hp x (.slice none 0 0))=true:=by rw[← hH,← e];exact hg
  have hbox:=ok.h2 x hgb
  refine ⟨⟨by rw[hV];exact hgb,fun a l h=>by rw[ho]at h;cases h⟩,fun K w0 φ w hF=>?_⟩
  rw[hH]at e ⊢
  refine hF.view (κ:=id) (fun i ob hi hl=>?_) (fun i i' _ _ _ _ _ _ h=>h) (fun i hi=>?_) hF.frz (fun i ob y hi hrw hy=>?_) hF.zk
  · obtain ⟨k1,k2⟩:=take_get e hi
    refine ⟨ob,k2,hl,fun h=>h,if_pos k1,fun B base tot hr=>?_⟩
    exact (obSc_cut (boxD_live (all_boxD hbox hi) hl).2 hr).keep turn_le rfl
  · rw[ok.h1]at hi
    show (if i<L.M then _ else if i=L.M∧false=true then _ else none)=none
    rw[if_neg (by omega),if_neg (by simp)]
  · obtain ⟨k1,k2⟩:=take_get e hi
    have hy':(if i<L.M then φ i else if i=L.M∧false=true then φ 0 else none)=some y:=hy
    rw[if_pos k1]at hy';exact hF.zsep i ob y k2 hrw hy'
theorem LoopS.turn {L:LoopS X D}(ok:L.OkS) {e:Ex}{LL:List Value}{bl:List Ob}{b1:Nat}{wr:List Nat}{x:X}
    (h:kS L.N L.M L.S L.pick L.Bs L.z L.q (.ex e ⟨LL,[],⟨bl,b1,wr⟩⟩)=some (L.encS (.inl x))) :
    e=.normal∧LL.length=L.N∧L.good x∧L.S.map (lget LL)=L.sl x∧∃b o,∀(K:Nat→Prop) (w0:World) (φ:Phi) (w:World),Inv K w0 φ bl w→Inv K w0 (turnP φ L.M b o) (L.H x) w:=by
  unfold kS at h;simp only at h
  split at h
  case h_2=>cases h
  rename_i hlen;have k4:=lenIs_eq _ _ hlen
  have nil:∀{k:Option Out},gC (bl.take L.M) (some (.ex .normal ⟨L.S.map (lget LL),[],⟨bl.take L.M,L.N,wr⟩⟩)) L.Bs=some (L.encS (.inl x)) →
      L.good x∧L.S.map (lget LL)=L.sl x∧∃b o,∀(K:Nat→Prop) (w0:World) (φ:Phi) (w:World),Inv K w0 φ bl w→Inv K w0 (turnP φ L.M b o) (L.H x) w:=by
    intro _ h;obtain ⟨g1,g2⟩:=gC_ok h;simp only[LoopS.encS,Option.some.injEq,Out.ex.injEq,St.mk.injEq,Hp.mk.injEq,true_and]at g2;obtain ⟨q1,q2,_⟩:=g2
    have ho:L.own x=none:=by
      rcases LoopS.own_cases (L:=L) x with ⟨p1,_,_⟩ | ⟨a,l,p1,p2,_⟩
      · exact p1
      · have:=congrArg List.length q2
        unfold LoopS.H at this;rw[List.length_append,ok.h1,p2,List.length_take]at this;simp only[List.length_cons,List.length_nil]at this
        omega
    obtain ⟨s1,s2⟩:=LoopS.same ok ho q2 g1;exact ⟨s1,q1,0,false,s2⟩
  split at h
  · split at h
    · exact ⟨rfl,k4,nil (k:=none) h⟩
    · rename_i q j hq
      split at h
      case h_2=>cases h
      rename_i obq hobq;rw[nthO_eq]at hobq
      split at h
      case h_2=>cases h
      rename_i cq hcq
      split at h
      · exact ⟨rfl,k4,nil (k:=none) h⟩
      · rename_i b l zz hsl
        split at h
        case h_2=>cases h
        rename_i a hmb hX;rw[nthO_eq]at hX;have hMb:=Nat.le_of_ble_eq_true hmb;obtain ⟨ha,h⟩:=cond_some h;obtain ⟨g1,g2⟩:=gC_ok h;simp only[LoopS.encS,Option.some.injEq,Out.ex.injEq,St.mk.injEq,Hp.mk.injEq,true_and]at g2;obtain ⟨q1,q2,_⟩:=g2;have hqM:=ok.qM q j hq
        have hblM:L.M≤bl.length:=by have:=lt_of_get hX;omega
        have hlen2:((bl.take L.M).set q (obPut obq (lset cq j (.slice (some ⟨L.M,0,none⟩) l zz)))).length=(L.hp x (L.ownV x)).length:=by
          rw[List.length_set,List.length_take,ok.h1];omega
        obtain ⟨q3,q4⟩:=List.append_inj (show _++_=L.hp x (L.ownV x)++L.ownB x from q2) hlen2
        rcases LoopS.own_cases (L:=L) x with ⟨p1,p2,p3⟩ | ⟨a2,l2,p1,p2,p3⟩
        · rw[p2]at q4;cases q4
        · rw[p2]at q4
          simp only[List.cons.injEq,Ob.cells.injEq,and_true]at q4;subst q4;have h3:=ok.h3 x (L.ownV x);rw[hq]at h3;obtain ⟨ob0,cs,c1,c0,c2,c3⟩:=h3;rw[c3]at q3
          have hqlt:q<(bl.take L.M).length:=by rw[List.length_take];omega
          have hqn:q<(L.hp x (.slice none 0 0)).length:=by rw[ok.h1];exact hqM
          have e0:=congrArg (fun z=>z[q]?) q3
          simp only[List.getElem?_set_self hqlt,List.getElem?_set_self hqn,Option.some.injEq]at e0
          obtain ⟨e1,e6⟩:=obPut_same hcq c0 e0
          have e2:∀i,i≠q→i<L.M→bl[i]?=(L.hp x (.slice none 0 0))[i]?:=by
            intro i hi him
            have:=congrArg (fun z=>z[i]?) q3
            simp only[List.getElem?_set_ne (Ne.symm hi)]at this
            rw[← this,List.getElem?_take,if_pos him]
          rw[lset_set]at e1
          have e3:cq.length=cs.length:=by
            have:=congrArg List.length e1
            simpa using this
          have e4:L.ownV x=.slice (some ⟨L.M,0,none⟩) l zz:=by
            have:=congrArg (fun z=>z[j]?) e1
            simp only[List.getElem?_set_self (show j<cq.length by omega),List.getElem?_set_self c2,Option.some.injEq]at this
            exact this.symm
          have e5:∀k,k≠j→cq[k]?=cs[k]?:=by
            intro k hk
            have:=congrArg (fun z=>z[k]?) e1
            simpa only [List.getElem?_set_ne (Ne.symm hk)] using this
          have hgb:gB L.Bs (L.hp x (L.ownV x))=true:=by rw[c3,← q3];exact g1
          have hgb0:gB L.Bs (L.hp x (.slice none 0 0))=true:=by rw[← ok.h4 x (L.ownV x)];exact hgb
          have hbox:=ok.h2 x hgb0
          refine ⟨rfl,k4,⟨hgb,fun a' l' h'=>by rw[p1]at h';simp only[Option.some.injEq,Prod.mk.injEq]at h';rw[← h'.1];exact ha⟩,q1,b,true,fun K w0 φ w hF=>?_⟩
          have hsl':cq[j]?=some (.slice (some ⟨b,0,none⟩) l zz):=getElem_of_lget hsl rfl
          have hHget:∀{i:Nat} {ob:Ob},(L.H x)[i]?=some ob→(i<L.M∧(L.hp x (L.ownV x))[i]?=some ob)∨(i=L.M∧ob=.cells a false):=by
            intro i ob hi;unfold LoopS.H at hi
            rcases get_app hi with ⟨h1,h2⟩ | ⟨h1,h2⟩
            · exact .inl ⟨by rwa [ok.h1]at h1,h2⟩
            · rw[ok.h1]at h1 h2
              rw[p2,List.getElem?_singleton]at h2
              split at h2
              · simp only[Option.some.injEq]at h2
                exact .inr ⟨by omega,h2.symm⟩
              · cases h2
          have hlt:∀{i:Nat},i<L.M→turnP φ L.M b true i=φ i:=fun h=>if_pos h
          have hM:turnP φ L.M b true L.M=φ b:=by
            show (if L.M<L.M then _ else if L.M=L.M∧true=true then φ b else none)=φ b
            rw[if_neg (by omega),if_pos ⟨rfl,rfl⟩]
          have hback:∀{i:Nat} {ob:Ob},(L.H x)[i]?=some ob→ob.live=true→∃ob',bl[if i=L.M then b else i]?=some ob'∧ob'.live=true∧(ob.rw=true→ob'.rw=true)∧turnP φ L.M b true i=φ (if i=L.M then b else i)∧∀B base tot,ObR φ w ob' B base tot→ObR (turnP φ L.M b true) w ob B base tot:=by
            intro i ob hi hl
            rcases hHget hi with ⟨hiM,h2⟩ | ⟨rfl,rfl⟩
            · rw[if_neg (by omega),hlt hiM]
              rw[c3]at h2
              by_cases hiq:i=q
              · subst hiq
                rw[List.getElem?_set_self hqn,Option.some.injEq]at h2
                subst h2;have hsc:=(boxD_live (all_boxD hbox c1) (obPut_live c0).1).2
                refine ⟨obq,hobq,(obPut_live hcq).1,fun _=>(obPut_live hcq).2.1,rfl,fun B base tot hr=>?_⟩
                rw[← e6]
                refine obR_put (n:=L.M) hcq (by rw[List.length_set,e3]) (fun k u u2 hu hu2 v' hv=>?_) turn_le ⟨cs,by rw[e6,obPut_self c0];exact hsc⟩ hr
                by_cases hkj:k=j
                · subst hkj
                  rw[List.getElem?_set_self c2,Option.some.injEq]at hu2
                  subst hu2;rw[hsl',Option.some.injEq]at hu;subst hu;rw[e4]
                  cases hv with
                  | sliceZ hp' a2 c2'=>exact .sliceZ (a:=⟨L.M,0,none⟩) (hM.trans hp') a2 _
                  | slice hp' hl' hc'=>exact .slice (hM.trans hp') hl' hc'
                · rw[List.getElem?_set_ne (Ne.symm hkj),← e5 k hkj,hu,Option.some.injEq]at hu2
                  subst hu2
                  exact (obCells_sc c0 hsc (by rw[← e5 k hkj];exact hu) hv).mono turn_le
              · rw[List.getElem?_set_ne (Ne.symm hiq)]at h2
                have h2':=h2;rw[← e2 i hiq hiM]at h2'
                refine ⟨ob,h2',hl,fun h=>h,rfl,fun B base tot hr=>?_⟩
                exact (obSc_cut (boxD_live (all_boxD hbox h2) hl).2 hr).keep turn_le rfl
            · rw[if_pos rfl]
              refine ⟨_,hX,rfl,fun _=>rfl,hM,fun B base tot hr=>?_⟩
              refine (obSc_cut (own_sc ha L.M) hr).keep turn_le rfl
          refine hF.view (κ:=fun i=>if i=L.M then b else i) (fun i ob hi hl=>hback hi hl) (fun i i' ob ob' hi hi' hl hl' he=>?_) (fun i hi=>?_) hF.frz (fun i ob y hi hrw hy=>?_) hF.zk
          · have g1:i≤L.M:=by rcases hHget hi with ⟨h,_⟩ | ⟨h,_⟩<;>omega
            have g2:i'≤L.M:=by rcases hHget hi' with ⟨h,_⟩ | ⟨h,_⟩<;>omega
            split at he<;>split at he<;>omega
          · unfold LoopS.H at hi
            rw[List.length_append,ok.h1,p2]at hi;simp only[List.length_cons,List.length_nil]at hi
            show (if i<L.M then _ else if i=L.M∧true=true then _ else none)=none
            rw[if_neg (by omega),if_neg (by omega)]
          · obtain ⟨ob',k1,k2,k3,k5,_⟩:=hback hi (Ob.live_of_rw hrw)
            rw[k5]at hy;exact hF.zsep _ ob' y k1 (k3 hrw) hy
      · cases h
  · rename_i e' hne
    exfalso
    split at h
    · obtain ⟨_,g2⟩:=gC_ok h
      simp only[LoopS.encS,Option.some.injEq,Out.ex.injEq]at g2;exact hne g2.1
    · split at h
      case h_2=>cases h
      split at h
      case h_2=>cases h
      obtain ⟨us,h1,_⟩:=frzG_all h;obtain ⟨vs,h2,_⟩:=frzG_all h1;obtain ⟨_,g2⟩:=gC_ok h2;simp only[LoopS.encS,Option.some.injEq,Out.ex.injEq]at g2;exact hne g2.1
def leaveP (φ φ0:Phi)(bl:List Ob)(M:Nat)(w:World):Phi:=⟨fun i=>if i<M then φ i else φ0 i,zF φ bl M w⟩
theorem LoopS.leave {L:LoopS X D}(ok:L.OkS) {e:Ex}{LL:List Value}{bl:List Ob}{b1:Nat}{wr:List Nat}{d:D}
    (h:kS L.N L.M L.S L.pick L.Bs L.z L.q (.ex e ⟨LL,[],⟨bl,b1,wr⟩⟩)=some (L.encS (.inr d))) :
    e=L.ex d∧LL.length=L.N∧gB L.Bs (L.dh d)=true∧∀(K:Nat→Prop) (w0:World) (φ φ0:Phi) (w:World) (tm:Array Value) (nb:Nat),Inv K w0 φ bl w→VRs φ LL.toArray tm→(∀i y,i<L.M→φ0 i=some y→φ i=some y)→(∀B o,φ0.z B=some o→φ.z B=some o)→(∀i,L.M+nb≤i→φ0 i=none) →
      ∃ψ,le φ0 ψ∧VRs ψ (sets (junkF L.N (LL.map lo)) ((L.pick (L.ex d)).zip (L.dv d))).toArray tm∧Inv K w0 ψ (L.dh d++List.replicate nb .dead) w:=by
  unfold kS at h;simp only at h
  split at h
  case h_2=>cases h
  rename_i hlen;have k4:=lenIs_eq _ _ hlen
  have hle0:∀{K:Nat→Prop} {w0:World} {φ φ0:Phi} {w:World},Inv K w0 φ bl w→(∀i y,i<L.M→φ0 i=some y→φ i=some y)→(∀B o,φ0.z B=some o→φ.z B=some o)→le φ0 (leaveP φ φ0 bl L.M w):=by
    intro K w0 φ φ0 w hF h1 h2
    refine ⟨fun i y hi=>?_,fun B o hB=>(zF_made hF L.M).le B o (h2 B o hB)⟩
    show (if i<L.M then φ i else φ0 i)=some y
    split
    · rename_i h;exact h1 i y h hi
    · exact hi
  have hcut:∀{K:Nat→Prop} {w0:World} {φ φ0:Phi} {w:World},Inv K w0 φ bl w→le (cut φ L.M) (leaveP φ φ0 bl L.M w):=by
    intro K w0 φ φ0 w hF
    refine ⟨fun i y hi=>?_,fun B o hB=>(zF_made hF L.M).le B o hB⟩
    rcases Nat.lt_or_ge i L.M with h | h
    · rw[cut_lt h]at hi
      show (if i<L.M then φ i else φ0 i)=some y
      rw[if_pos h];exact hi
    · rw[cut_ge h]at hi;cases hi
  have fin:∀{K:Nat→Prop} {w0:World} {φ φ0:Phi} {w:World} {nb:Nat},Inv K w0 φ bl w→(∀i,L.M+nb≤i→φ0 i=none)→gB L.Bs (L.dh d)=true →
      (∀(i:Nat) (ob:Ob),(L.dh d)[i]?=some ob→ob.live=true→i<L.M∧∃ob',bl[i]?=some ob'∧ob'.live=true∧(ob.rw=true→ob'.rw=true)∧(bl[i]?=some ob∨∀B base tot,ObR φ w ob' B base tot→ObR (leaveP φ φ0 bl L.M w) w ob B base tot)) →
      Inv K w0 (leaveP φ φ0 bl L.M w) (L.dh d++List.replicate nb .dead) w:=by
    intro K w0 φ φ0 w nb hF htop hg hv;have hbox:=ok.d3 d hg
    have hget:∀{i:Nat} {ob:Ob},(L.dh d++List.replicate nb Ob.dead)[i]?=some ob→ob.live=true→(L.dh d)[i]?=some ob:=by
      intro i ob hi hl
      rcases get_app hi with ⟨_,h2⟩ | ⟨_,h2⟩
      · exact h2
      · rw[List.getElem?_replicate]at h2
        split at h2
        · simp only[Option.some.injEq]at h2;subst h2;cases hl
        · cases h2
    refine hF.view (κ:=id) (fun i ob hi hl=>?_) (fun i i' _ _ _ _ _ _ h=>h) (fun i hi=>?_) (zF_frz hF L.M) (fun i ob y hi hrw hy=>?_) (fun k hk=>zF_k hF L.M hk)
    · obtain ⟨hiM,ob',g1,g2,g3,g4⟩:=hv i ob (hget hi hl) hl
      refine ⟨ob',g1,g2,g3,if_pos hiM,fun B base tot hr=>?_⟩
      rcases g4 with g4 | g4
      · rw[g1,Option.some.injEq]at g4
        subst g4;exact (obSc_cut (boxD_live (all_boxD hbox (hget hi hl)) hl).2 hr).keep (hcut hF) rfl
      · exact g4 B base tot hr
    · rw[List.length_append,ok.d2,List.length_replicate]at hi
      show (if i<L.M then φ i else φ0 i)=none
      rw[if_neg (by omega)]
      exact htop i hi
    · have hl:=Ob.live_of_rw hrw
      obtain ⟨hiM,ob',g1,g2,g3,_⟩:=hv i ob (hget hi hl) hl
      have hy':(if i<L.M then φ i else φ0 i)=some y:=hy
      rw[if_pos hiM]at hy';exact zF_sep hF hiM g1 (g3 hrw) hy'
  split at h
  · exfalso
    have no:∀{T:List Value} {H:List Ob} {wr:List Nat},¬(some (Out.ex .normal ⟨T,[],⟨H,L.N,wr⟩⟩)=some (L.encS (.inr d))):=by
      intro T H wr hh;simp only[LoopS.encS,Option.some.injEq,Out.ex.injEq]at hh;exact ok.e1 d hh.1.symm
    split at h
    · exact no (gC_ok h).2
    · split at h
      case h_2=>cases h
      split at h
      case h_2=>cases h
      split at h
      · exact no (gC_ok h).2
      · split at h
        case h_2=>cases h
        obtain ⟨_,h⟩:=cond_some h;exact no (gC_ok h).2
      · cases h
  · rename_i e' hne
    split at h
    · obtain ⟨g1,g2⟩:=gC_ok h
      simp only[LoopS.encS,Option.some.injEq,Out.ex.injEq,St.mk.injEq,Hp.mk.injEq,true_and]at g2;obtain ⟨rfl,q1,q2,_⟩:=g2
      refine ⟨rfl,k4,by rw[← q2];exact g1,fun K w0 φ φ0 w tm nb hF hV ha hz ht=>⟨leaveP φ φ0 bl L.M w,hle0 hF ha hz,?_,?_⟩⟩
      · have hs:SlotRs L.M LL (sets (junkF L.N (LL.map lo)) ((L.pick (L.ex d)).zip (L.dv d))):=by
          refine slotRs_known k4 fun kv hkv=>?_
          have hm:=ok.d1 d;rw[List.all_eq_true]at hm;have hm1:=hm _ (List.of_mem_zip hkv).2;rw[Bool.and_eq_true]at hm1;rw[← q1]at hkv
          have h5:=zip_get (show (kv.1,kv.2)∈(L.pick (L.ex d)).zip ((L.pick (L.ex d)).map (lget LL)) from hkv)
          exact ⟨getElem_of_lget h5.symm hm1.1,hm1.2⟩
        exact (hs.vrs hV).mono (hcut hF)
      · refine fin hF ht (by rw[← q2];exact g1) fun i ob hi hl=>?_
        obtain ⟨k1,k2⟩:=take_get q2 hi
        exact ⟨k1,ob,k2,hl,fun h=>h,.inl k2⟩
    · rename_i q j hq
      split at h
      case h_2=>cases h
      rename_i obq hobq;rw[nthO_eq]at hobq
      split at h
      case h_2=>cases h
      rename_i cq hcq;obtain ⟨us,h1,u1,u2⟩:=frzG_all h;obtain ⟨vs,h2,v1,v2⟩:=frzG_all h1;obtain ⟨g1,g2⟩:=gC_ok h2;simp only[LoopS.encS,Option.some.injEq,Out.ex.injEq,St.mk.injEq,Hp.mk.injEq,true_and]at g2;obtain ⟨rfl,q1,q2,_⟩:=g2;have hqM:=ok.qM q j hq
      have hqb:q<(bl.take L.M).length:=by rw[List.length_take];have:=lt_of_get hobq;omega
      refine ⟨rfl,k4,by rw[← q2];exact g1,fun K w0 φ φ0 w tm nb hF hV ha hz ht=>⟨leaveP φ φ0 bl L.M w,hle0 hF ha hz,?_,?_⟩⟩
      · have hpick:VRl φ ((L.pick (L.ex d)).map (lget LL)) ((L.pick (L.ex d)).map (fun i=>tm.getD i undef)):=by
          generalize L.pick (L.ex d)=pk
          induction pk with
          | nil=>exact .nil
          | cons i r ih =>
            refine .cons ?_ ih
            have:=hV.getD i;rw[← lget_eq]at this;exact this
        obtain ⟨u,hu,hu2⟩:=frzG_ok (ψ:=leaveP φ φ0 bl L.M w) (zF_made hF L.M) (hcut hF) h1 hpick;obtain ⟨_,g3⟩:=gC_ok hu2;simp only[LoopS.encS,Option.some.injEq,Out.ex.injEq,St.mk.injEq,Hp.mk.injEq,true_and]at g3;obtain ⟨rfl,_,_⟩:=g3
        refine VRs.picks _ _ _ (VRs.lo k4 hV) hu ?_
        have hm:=ok.d1 d;rw[List.all_eq_true]at hm ⊢;intro v hv;have:=hm v hv;rw[Bool.and_eq_true]at this;exact this.1
      · refine fin hF ht (by rw[← q2];exact g1) fun i ob hi hl=>?_
        rw[← q2]at hi
        by_cases hiq:i=q
        · subst hiq
          rw[List.getElem?_set_self hqb,Option.some.injEq]at hi
          subst hi
          refine ⟨hqM,obq,hobq,(obPut_live hcq).1,fun _=>(obPut_live hcq).2.1,.inr fun B base tot hr=>?_⟩
          have hgd:gB L.Bs (L.dh d)=true:=by rw[← q2];exact g1
          have hget:(L.dh d)[i]?=some (obPut obq (lset cq j (us.headD undef))):=by rw[← q2,List.getElem?_set_self hqb]
          have hsc:=(boxD_live (all_boxD (ok.d3 d hgd) hget) ((obPut_live hcq).2.2 _).1).2;have hput:=obPut_cells hcq (lset cq j (us.headD undef))
          refine obR_put (n:=L.M) hcq (by rw[lset_set,List.length_set]) (fun k u u2 hu hu2 v' hv=>?_) (hcut hF) ⟨_,hsc⟩ hr
          by_cases hkj:k=j
          · subst hkj
            have hlg:lget cq k=u:=by
              rw[lget_eq,Array.getD_eq_getD_getElem?,List.getElem?_toArray,hu];rfl
            obtain ⟨w1,hw,hw2⟩:=frzG_ok (ψ:=leaveP φ φ0 bl L.M w) (zF_made hF L.M) (hcut hF) h (show VRl φ [lget cq k] [v'] by rw[hlg];exact .cons hv .nil)
            obtain ⟨vs',h2',_,_⟩:=frzG_all hw2;obtain ⟨_,g3⟩:=gC_ok h2';simp only[LoopS.encS,Option.some.injEq,Out.ex.injEq,St.mk.injEq,Hp.mk.injEq,true_and]at g3;obtain ⟨_,g4,_⟩:=g3
            have e1:=congrArg (fun z=>z[i]?) (g4.trans q2.symm)
            simp only[List.getElem?_set_self hqb,Option.some.injEq]at e1
            obtain ⟨e1,_⟩:=obPut_same hcq hcq e1
            have e2:=congrArg (fun z=>z[k]?) e1
            have hkl:k<cq.length:=lt_of_get hu
            simp only[lset_set,List.getElem?_set_self hkl,Option.some.injEq]at e2
            rw[lset_set,List.getElem?_set_self hkl,Option.some.injEq]at hu2
            subst hu2;rw[← e2]
            cases hw with
            | cons hw3 hw4=>cases hw4;exact hw3
          · rw[lset_set,List.getElem?_set_ne (Ne.symm hkj),hu,Option.some.injEq]at hu2
            subst hu2
            exact (obCells_sc hput hsc (by rw[lset_set,List.getElem?_set_ne (Ne.symm hkj)];exact hu) hv).mono (hcut hF)
        · rw[List.getElem?_set_ne (Ne.symm hiq)]at hi
          obtain ⟨k1,k2⟩:=take_get rfl hi
          exact ⟨k1,ob,k2,hl,fun h=>h,.inl k2⟩
section
variable {P:Program}(hN:NoNG P) (hm:P.follows .mixedOrders=true)
include hN hm
omit hN hm in
theorem told_slots {M N:Nat}{S:List Nat}{vs t:List Value}(ht:t.length=N) (hv:vs.all (fun v=>notU v&&scT M v)=true) (hS:∀kv∈S.zip vs,lget t kv.1=kv.2):SlotRs M t (sets (junkF N (t.map lo)) (S.zip vs)):=by
  refine slotRs_known ht fun kv hkv=>?_
  rw[List.all_eq_true]at hv;have:=hv _ (List.of_mem_zip hkv).2;rw[Bool.and_eq_true]at this;exact ⟨getElem_of_lget (hS kv hkv) this.1,this.2⟩
theorem LoopS.sem {L:LoopS X D}(ok:L.OkS) {a:Ans}(hk:Known P a) {n:Nat}{rd:X→RT (Sum X D)}
    (hr:∀x j,L.good x→evC P a.c n (L.headS x j) (kS L.N L.M L.S L.pick L.Bs L.z L.q)=(rd x).out L.encS):∀{m:Nat} {x:X} {d:D},loopV rd m x=some d→L.good x →
    ∀{t:List Value},t.length=L.N→(∀kv∈L.S.zip (L.sl x),lget t kv.1=kv.2)→∃j,gB L.Bs (L.dh d)=true∧∀(K:Nat→Prop) (w0:World) (φ φ0:Phi) (w:World) (ac:Act) (F:Fence) (n:Nat) (nb:Nat),
      Inv K w0 φ (L.H x) w→VRs φ t.toArray ac.tmps→DRs φ [] ac.defers→FenceOk φ none F→(∀i y,i<L.M→φ0 i=some y→φ i=some y)→(∀B o,φ0.z B=some o→φ.z B=some o)→(∀i,L.M+nb≤i→φ0 i=none) →
      wpLoopIn F n P L.c (CodeR K w0 φ0 (L.ex d) ⟨sets (junkF L.N j) ((L.pick (L.ex d)).zip (L.dv d)),[],⟨L.dh d++List.replicate nb .dead,0,[]⟩⟩) ac w
  | 0,_,_,h,_,_,_,_=>by cases h
  | m+1,x,d,h,hx,t,ht,hS=>by
    have hev:∀{y:Sum X D},(rd x).val=some y→∃e LL bl b1 wr,Fact P (.code none L.c ⟨sets (junkF L.N (t.map lo)) (L.S.zip (L.sl x)),[],⟨L.H x,0,[]⟩⟩) (.ex e ⟨LL,[],⟨bl,b1,wr⟩⟩)∧kS L.N L.M L.S L.pick L.Bs L.z L.q (.ex e ⟨LL,[],⟨bl,b1,wr⟩⟩)=some (L.encS y):=by
      intro y hy;have h1:=hr x (t.map lo) hx;rw[RT.out_val,hy,Option.map_some]at h1;obtain ⟨o,h2,hf⟩:=hk.factK hN hm h1;have h3:=h2;unfold kS at h3
      split at h3
      case h_2=>cases h3
      rename_i e s
      split at h3
      case h_2=>cases h3
      rename_i hd _;obtain ⟨LL,d0,⟨bl,b1,wr1⟩⟩:=s;simp only at hd;subst hd;exact ⟨e,LL,bl,b1,wr1,hf,h2⟩
    have hsl:=told_slots ht (ok.s2 x) hS
    have dnil:∀{φ ψ:Phi} {l:List Deferred},DRs φ [] l→DRs ψ [] l:=fun h=>by cases h;exact .nil
    unfold loopV at h
    split at h
    · rename_i y hy
      obtain ⟨e,LL,bl,b1,wr,hf,hks⟩:=hev hy;obtain ⟨rfl,k4,hgy,hsy,b,o,hturn⟩:=LoopS.turn ok hks;have hTl:(sets (junkF L.N (LL.map lo)) (L.S.zip (L.sl y))).length=L.N:=len_sets _
      have hTs:SlotRs L.M LL (sets (junkF L.N (LL.map lo)) (L.S.zip (L.sl y))):=told_slots k4 (ok.s2 y) fun kv hkv=>by
        rw[← hsy]at hkv
        exact (zip_get (show (kv.1,kv.2)∈L.S.zip (L.S.map (lget LL)) from hkv)).symm
      obtain ⟨j,hgd,hj⟩:=LoopS.sem ok hk hr h hgy hTl (lget_setsL ok.nd ok.lt (ok.s1 y) _)
      refine ⟨j,hgd,fun K w0 φ φ0 w ac F n nb hI hV hD hF ha hz htop=>?_⟩
      obtain ⟨_,hh⟩:=hf.1 (Nat.zero_le _)
      refine rounds_of (wpIn_mono (hh K w0 φ w ac F n hI ((hsl.vrs hV).mono (cut_le φ _)) hD hF) ?_)
      rintro x' a' w' ⟨φ',hle,hx',ht',hd',hI'⟩
      cases hx'
      show wpLoopIn F n P L.c _ a' w'
      refine hj K w0 (turnP φ' L.M b o) φ0 w' a' F n nb (hturn K w0 φ' w' hI') ((hTs.vrs ht').mono turn_le) (dnil hd') hF (fun i y hi h0=>?_) (fun B o h0=>hle.zz B o (hz B o h0)) htop
      show (if i<L.M then φ' i else _)=some y
      rw[if_pos hi];exact hle _ _ (ha i y hi h0)
    · rename_i d' hd
      simp only[Option.some.injEq]at h;subst h;obtain ⟨e,LL,bl,b1,wr,hf,hks⟩:=hev hd;obtain ⟨rfl,k4,hgd,hleave⟩:=LoopS.leave ok hks
      refine ⟨LL.map lo,hgd,fun K w0 φ φ0 w ac F n nb hI hV hD hF ha hz htop=>?_⟩
      obtain ⟨_,hh⟩:=hf.1 (Nat.zero_le _)
      refine rounds_of (wpIn_mono (hh K w0 φ w ac F n hI ((hsl.vrs hV).mono (cut_le φ _)) hD hF) ?_)
      rintro x' a' w' ⟨φ',hle,hx',ht',hd',hI'⟩
      obtain ⟨ψ,p1,p2,p3⟩:=hleave K w0 φ' φ0 w' a'.tmps nb hI' ht' (fun i y hi h0=>hle _ _ (ha i y hi h0)) (fun B o h0=>hle.zz B o (hz B o h0)) htop
      have hc:CodeR K w0 φ0 (L.ex d') ⟨sets (junkF L.N (LL.map lo)) ((L.pick (L.ex d')).zip (L.dv d')),[],⟨L.dh d'++List.replicate nb .dead,0,[]⟩⟩ x' a' w':=⟨ψ,p1,hx'.any (ok.e2 d'),p2,dnil hd',p3⟩;have hne:=ok.e1 d'
      revert hc
      generalize CodeR K w0 φ0 (L.ex d') ⟨sets (junkF L.N (LL.map lo)) ((L.pick (L.ex d')).zip (L.dv d')),[],⟨L.dh d'++List.replicate nb .dead,0,[]⟩⟩=Q
      intro hc
      generalize L.ex d'=q at hx' hne
      cases hx' with
      | normal=>exact absurd rfl hne
      | _=>exact hc
    · cases h
theorem LoopS.fact {L:LoopS X D}(ok:L.OkS) {a:Ans}(hk:Known P a) {n:Nat}{rd:X→RT (Sum X D)}
    (hr:∀x j,L.good x→evC P a.c n (L.headS x j) (kS L.N L.M L.S L.pick L.Bs L.z L.q)=(rd x).out L.encS) {m:Nat} {x:X} {d:D} (h:loopV rd m x=some d) (hx:L.good x)
    {t:List Value} (ht:t.length=L.N) (hS:∀kv∈L.S.zip (L.sl x),lget t kv.1=kv.2):∃j,Fact P (.code none (.loop L.c) ⟨t,[],⟨L.H x,0,[]⟩⟩) (L.tailS x d j):=by
  obtain ⟨j,hg,hj⟩:=LoopS.sem hN hm ok hk hr h hx ht hS
  have hlen:(L.H x).length=L.M+(L.ownB x).length:=by unfold LoopS.H;rw[List.length_append,ok.h1]
  have key:∀(K:Nat→Prop) (w0:World) (φ:Phi) (w:World) (ac:Act) (F:Fence) (n:Nat),Inv K w0 φ (L.H x) w→VRs φ t.toArray ac.tmps→DRs φ [] ac.defers→FenceOk φ none F →
      wpLoopIn F n P L.c (CodeR K w0 φ (L.ex d) ⟨sets (junkF L.N j) ((L.pick (L.ex d)).zip (L.dv d)),[],⟨L.dh d++List.replicate (L.ownB x).length .dead,0,[]⟩⟩) ac w:=fun K w0 φ w ac F n hI ht hd hF =>
    hj K w0 φ φ w ac F n (L.ownB x).length hI ht hd hF (fun _ _ _ h=>h) (fun _ _ h=>h) fun i hi=>hI.top i (by rw[hlen];exact hi)
  refine ⟨j,fun _=>⟨⟨rfl,?_,fun b hb _=>absurd hb (Nat.not_lt_zero _),fun b ob hb hl hrw=>?_⟩,fun K w0 φ w ac F n hI ht hd hF=>wpIn_of_rounds (key K w0 φ w ac F n hI ht hd hF)⟩,fun _ K w0 φ w ac F n hI ht hd hF=>key K w0 φ w ac F n hI ht hd hF⟩
  · show (L.H x).length≤(L.dh d++List.replicate (L.ownB x).length Ob.dead).length
    rw[hlen,List.length_append,ok.d2,List.length_replicate];exact Nat.le_refl _
  · exfalso
    rcases get_app hb with ⟨_,h2⟩ | ⟨_,h2⟩
    · rw[(boxD_live (all_boxD (ok.d3 d hg) h2) hl).1]at hrw;cases hrw
    · rw[List.getElem?_replicate]at h2
      split at h2
      · simp only[Option.some.injEq]at h2;subst h2;cases hl
      · cases h2
omit hN hm in
theorem Fact.tells {c:Code}{t:List Value} {H H':List Ob}{o:Out}(hf:Fact P (.code none (.loop c) ⟨t,[],⟨H,0,[]⟩⟩) o) (hg:Forgets H' H):Fact P (.code none (.loop c) ⟨t,[],⟨H',0,[]⟩⟩) o:=by
  cases o with
  | ex e s =>
    obtain ⟨h1,h2⟩:=hf
    refine ⟨fun hb=>?_,fun hb K w0 φ w a F n hI ht hd hF=>h2 (Nat.zero_le _) K w0 φ w a F n (hg.inv hI) ht hd hF⟩
    obtain ⟨hp,hh⟩:=h1 (Nat.zero_le _)
    refine ⟨⟨hp.base,?_,fun b hb=>absurd hb (Nat.not_lt_zero _),fun b ob hx hl hr=>?_⟩,fun K w0 φ w a F n hI ht hd hF=>hh K w0 φ w a F n (hg.inv hI) ht hd hF⟩
    · have h3:=hp.len
      have h4:=hg.len
      show H'.length≤_
      rw[h4];exact h3
    · exact hg.ro hr (hp.ro b ob hx hl hr)
  | _=>exact absurd hf.1 (by intro h;exact h)
omit hN hm in
theorem Fact.rebase {c:Code}{t T:List Value}{H H1:List Ob}{e:Ex}{b:Nat}{w:List Nat}(hf:Fact P (.code none (.loop c) ⟨t,[],⟨H,0,[]⟩⟩) (.ex e ⟨T,[],⟨H1,0,[]⟩⟩)) :
    Fact P (.code none (.loop c) ⟨t,[],⟨H,b,w⟩⟩) (.ex e ⟨T,[],⟨H1,b,List.range H.length++w⟩⟩):=by
  obtain ⟨h1,h2⟩:=hf;obtain ⟨hp,hh⟩:=h1 (Nat.zero_le _)
  refine ⟨fun hb=>⟨⟨rfl,hp.len,fun k hk hn=>?_,hp.ro⟩,hh⟩,fun hb=>h2 (Nat.zero_le _)⟩
  exact absurd (List.mem_append_left w (List.mem_range.2 (Nat.lt_of_lt_of_le hk hb))) hn
def LoopS.tailB (L:LoopS X D)(x:X)(d:D)(j:List Value)(b:Nat)(w:List Nat):Out:=.ex (L.ex d) ⟨sets (junkF L.N j) ((L.pick (L.ex d)).zip (L.dv d)),[],⟨L.dh d++List.replicate (L.ownB x).length .dead,b,List.range (L.M+(L.ownB x).length)++w⟩⟩
theorem LoopS.knownB {L:LoopS X D}(ok:L.OkS) {a:Ans}(hk:Known P a) {n:Nat}{rd:X→RT (Sum X D)}
    (hr:∀x j,L.good x→evC P a.c n (L.headS x j) (kS L.N L.M L.S L.pick L.Bs L.z L.q)=(rd x).out L.encS) {c0:Code} (bs:X→Nat) (ws:X→List Nat) (dec:Task→Option (Code×X)) (alt:X→List Value→AT)
    (hd:∀t c x,dec t=some (c,x)→c=c0→∃T H',t=.code none (.loop L.c) ⟨T,[],⟨H',bs x,ws x⟩⟩∧Forgets H' (L.H x)∧T.length=L.N∧∀kv∈L.S.zip (L.sl x),lget T kv.1=kv.2)
    (ha:∀x j o,(alt x j).out=some o→L.good x∧∃d,loopR rd x=some d∧o=L.tailB x d j (bs x) (ws x)) :
    ∃J:Task→List Value,Known P (loopAns c0 dec alt J):=by
  classical
  let good:Task→List Value→Prop:=fun t j=>∀c x d,dec t=some (c,x)→c=c0→L.good x→loopR rd x=some d→Fact P t (L.tailB x d j (bs x) (ws x))
  have hex:∀t,∃j,good t j:=by
    intro t
    cases hdt:dec t with
    | none=>exact ⟨[],fun c x d h=>by rw[hdt]at h;cases h⟩
    | some cx =>
      obtain ⟨c,x⟩:=cx
      by_cases hc:c=c0
      · by_cases hx:L.good x
        · cases hl:loopR rd x with
          | none=>exact ⟨[],fun c' x' d h _ _ hr=>by rw[hdt]at h;cases h;rw[hl]at hr;cases hr⟩
          | some d =>
            obtain ⟨T,H',rfl,hg,hT,hS⟩:=hd t c x hdt hc;obtain ⟨m,hm'⟩:=loopR_some hl;obtain ⟨j,hj⟩:=LoopS.fact hN hm ok hk hr hm' hx hT hS
            refine ⟨j,fun c' x' d' h _ _ hr=>?_⟩
            rw[hdt]at h;cases h;rw[hl]at hr;cases hr;have:=Fact.rebase (b:=bs x) (w:=ws x) (hj.tells hg)
            have hlen:H'.length=L.M+(L.ownB x).length:=by rw[hg.len];unfold LoopS.H;rw[List.length_append,ok.h1]
            rw[hlen]at this;exact this
        · exact ⟨[],fun c' x' d h _ h' _=>by rw[hdt]at h;cases h;exact absurd h' hx⟩
      · exact ⟨[],fun c' x' d h h' _ _=>by rw[hdt]at h;cases h;exact absurd h' hc⟩
  refine ⟨fun t=>Classical.choose (hex t),?_⟩
  intro t at' o ht ho
  cases hdt:dec t with
  | none=>simp only[loopAns,hdt]at ht;cases ht
  | some cx =>
    obtain ⟨c,x⟩:=cx;simp only[loopAns,hdt,Option.some.injEq]at ht;subst ht;simp only[AT.out]at ho;obtain ⟨h1,h2⟩:=cond_some ho;obtain ⟨hx,d,h3,rfl⟩:=ha x _ o h2;exact Classical.choose_spec (hex t) c x d hdt (eqCode_eq h1) hx h3
end
end
end
end Go.Gi
