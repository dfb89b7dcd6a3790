/- Part 9 of the texts below the claim. Conditions: none. -/
import Derived.Test.YtoghoeebiddblaaMg8
import Derived.Test.YtoghoeebiddblaaMg5
import Derived.Test.YtoghoeebiddblaaMg6
import Derived.Test.YtoghoeebiddblaaMg7
set_option linter.unusedVariables false
set_option linter.unusedSimpArgs false
namespace Go.Gi
open Go.RowKit
noncomputable section
def AnyOk (P:Program)(os:Array Oper) (s s':St):Prop :=
  s.h.base≤s.h.bl.length→Pres s.h s'.h∧∀(K:Nat→Prop) (w0:World) (φ:Phi) (w:World) (a:Act) (F:Fence) (n:Nat) (rd:Option Nat) (Q:Exit→Act→World→Prop),
    Inv K w0 φ s.h.bl w→VRs φ s.t.toArray a.tmps→DRs φ s.d a.defers→FenceOk φ rd F→(∀x a w',CodeR K w0 φ .normal s' x a w'→Q x a w')→wpAnyIn F n P .any os Q os.size (Array.replicate os.size false) a { w with drawn:=w.drawn+1 }
theorem drawn_any {P:Program}{self:Self}(hN:NoNG P) (hs:SelfOk P self) {rd:Option Nat}{id:Nat}{os:Array Oper}{s:St}{o:Out}(h:drawn P self rd id os s=some o):∃s',o=.ex .normal s'∧AnyOk P os s s':=by
  unfold drawn at h
  split at h
  case isFalse=>cases h
  rename_i hp
  split at h
  case h_2=>cases h
  rename_i recs T h1 hr
  split at h
  case isFalse=>cases h
  rename_i hc
  simp only [Option.some.injEq]at h
  subst h
  have p:=plan_of hp hr hc
  refine ⟨_,rfl,fun hb=>⟨(p.tr.pres hs hb).1,?_⟩⟩
  intro K w0 φ w a F n rd Q hI ht hd hF hQ
  have h0:∀j,(Array.replicate os.size false).getD j false=false:=fun j=>by
    simp only [Array.getD_eq_getD_getElem?,Array.getElem?_replicate]
    split<;>rfl
  refine p.run hN hs hb os.size _ (List.range os.size) φ a _ (by simp) ?_ ?_ (by simp) ?_ ?_ hd hF hQ
  · intro j k hj;simp only [h0]at hj;cases hj
  · intro i hi _;exact List.mem_range.2 hi
  · rw [HD_none _ fun r _ _=>h0 r.i];exact hI.drew
  · rw [TD_none _ fun r _=>h0 r.i];exact ht
theorem drawnF_any {P:Program}{self:Self}(hN:NoNG P) (hs:SelfOk P self) {rd:Option Nat}{id:Nat}{os:Array Oper}{s:St}{o:Out}(h:drawnF P self rd id os s=some o):∃s',o=.ex .normal s'∧AnyOk P os s s':=by
  unfold drawnF at h
  split at h
  case isFalse=>cases h
  rename_i hp
  split at h
  case h_2=>cases h
  rename_i recs T h1 hr
  split at h
  case isFalse=>cases h
  rename_i hc
  simp only [Option.some.injEq]at h
  subst h
  simp only [Bool.and_eq_true]at hc
  have p:=planF_of hp hr hc.1 hc.2.1
  have hdl:∀r∈recs,r.loud=true→isAl r.o=true→∀t,r.o.dst=some t→t<s.t.length:=by
    intro r hr hl ha t ht
    have:=hc.2.2
    rw [List.all_eq_true]at this
    have:=this r hr
    rw [hl,ha,ht]at this
    simpa using this
  refine ⟨_,rfl,fun hb=>⟨(p.tr.pres hs hb).1,?_⟩⟩
  intro K w0 φ w a F n rd Q hI ht hd hF hQ
  have h0:∀j,(Array.replicate os.size false).getD j false=false:=fun j=>by
    simp only [Array.getD_eq_getD_getElem?,Array.getElem?_replicate]
    split<;>rfl
  have hnf:∀r,¬IsFl recs (fun j=>(Array.replicate os.size false).getD j false) (fun _=>false) r:=fun r hr=>by have:=hr.2.2.2.1;simp only [h0]at this;cases this
  have hI':=hI.drew
  refine p.run hN hs hb hdl os.size _ (List.range os.size) (fun _=>false) (fun _=>0) φ s.t a _ (by simp) ?_ (by simp) ?_ hd hF hQ
  · intro i hi _;exact List.mem_range.2 hi
  · refine ⟨fun i hi=>by (cases hi),fun r _ hD=>by (simp only [h0]at hD;cases hD),pw_all fun _ _ _ _ _ _ h=>by (cases h),fun j k hj=>by (simp only [h0]at hj;cases hj),rfl,fun t _=>?_,ht,?_,?_,fun r hr=>(hnf r hr).elim,fun r _ hr=>(hnf r hr).elim,fun r hr=>(hnf r hr).elim⟩
    · rw [TD_none _ fun r _=>rfl]
    · rw [HD_none _ fun r _ _=>rfl]
      refine hI'.rebase.weaken ?_
      rintro k (hk | ⟨r,hr,_⟩)
      · exact hk
      · exact (hnf r hr).elim
    · exact ⟨hI'.keep,hI'.klt,hI'.size,hI'.os,hI'.tape,hI'.output⟩
theorem drawnX_any {P:Program}{self:Self}(hN:NoNG P) (hs:SelfOk P self) {rd:Option Nat}{id:Nat}{os:Array Oper}{s:St}{o:Out}(h:drawnX P self rd id os s=some o):∃s',o=.ex .normal s'∧AnyOk P os s s':=by
  unfold drawnX at h
  split at h
  · exact drawnF_any hN hs h
  · exact drawn_any hN hs h
theorem blt_lt {a b:Nat}(h:Nat.blt a b=true):a<b:=by rwa [Nat.blt_eq]at h
def depsAt (os:Array Oper)(i:Nat):List Nat:=((os[i]?).map depsOf).getD []
def depsAsc (os:Array Oper):Bool:=(List.range os.size).all fun i=>(depsAt os i).all fun d=>Nat.blt d i
def guardsIn (os:Array Oper)(m:Nat):Bool:=(List.range m).all fun i=>match (os[i]?).bind (·.guard) with
  | none=>true
  | some (j,_)=>Nat.blt j m
def ancs (os:Array Oper):Nat→List Nat→List Nat
  | 0,s=>s
  | f+1,s=>ancs os f (s++((s.flatMap (depsAt os)).filter fun d=>!s.contains d).eraseDups)
def waits (os:Array Oper)(m:Nat):Bool:=depsAsc os&&(guardsIn os m&&(List.range m).all fun j=>(ancs os m (depsAt os m)).contains j)
theorem dep_mem {os:Array Oper}{i:Nat}{o:Oper}(ho:os[i]?=some o) {d:Nat}:d∈depsAt os i↔∃e∈o.after,Region.binds .any e=true∧e.on=d:=by
  unfold depsAt depsOf
  rw [ho]
  simp only [Option.map_some,Option.getD_some,List.mem_map,List.mem_filter,Array.mem_toList_iff,and_assoc]
def ShutL (os:Array Oper)(D:Nat→Prop):Prop:=∀i,D i→∀d∈depsAt os i,D d
theorem ancs_ok {os:Array Oper}{D:Nat→Prop}(hs:ShutL os D):∀(f:Nat) (s:List Nat),(∀i∈s,D i)→∀i∈ancs os f s,D i
  | 0,s,h=>h
  | f+1,s,h=>by
    refine ancs_ok hs f _ fun i hi=>?_
    rcases List.mem_append.1 hi with hi | hi
    · exact h i hi
    · rw [List.mem_eraseDups]at hi
      obtain ⟨hi,_⟩:=List.mem_filter.1 hi
      obtain ⟨j,hj,hij⟩:=List.mem_flatMap.1 hi
      exact hs j (h j hj) i hij
section
variable {P:Program}{F:Fence}{n:Nat}{Q:Exit→Act→World→Prop}
theorem upon_q {o:Oper}{a:Act}{K:Act→World→Prop} {Q':Exit→Act→World→Prop}(hq:∀c a w,Q' (.panic c) a w→Q (.panic c) a w) (hl:LetsOut Q'→LetsOut Q) {r:Result Next}(h:o.uponIn F n P a K Q' r):o.uponIn F n P a K Q r:=by
  cases r with
  | ok x w' =>
    cases x<;>simp only [Oper.uponIn]at h ⊢ <;>
      first
        | exact h
        | exact ⟨h.1,CallsIn.mono h.2 (fun e w'' he=>by cases e<;>first | exact he | exact hq _ _ _ he | exact hl he)⟩
        | exact ⟨h.1,RowsIn.mono h.2 (fun _ _ he=>he)⟩
        | exact ⟨h.1,RoundIn.mono h.2 (fun e w'' he=>by cases e<;>first | exact he | exact hq _ _ _ he | exact hl he)⟩
  | halt x w'=>cases x<;>simp only [Oper.uponIn]at h ⊢<;>first | exact h | exact hq _ _ _ h
theorem any_full {os:Array Oper}{a:Act}{w:World}:∀(fuel:Nat) (listed:Array Bool),(∀j,j<os.size→listed.getD j true=true)→Q .normal a w→wpAnyIn F n P .any os Q fuel listed a w:=by
  intro fuel listed hl hq
  have hr:Region.ready .any os listed=[]:=by
    rw [List.eq_nil_iff_forall_not_mem]
    intro i hi
    rw [mem_ready]at hi
    obtain ⟨h1,o,h2,_⟩:=hi
    rw [hl i (Array.getElem?_eq_some_iff.1 h2).1]at h1;cases h1
  cases fuel with
  | zero=>exact ⟨hr,hq⟩
  | succ fuel=>exact ⟨fun _=>hq,fun i hi=>by rw [hr]at hi;cases hi⟩
theorem getD_tf {l:Array Bool}{j:Nat}(h:j<l.size):l.getD j true=l.getD j false:=by
  simp only [Array.getD_eq_getD_getElem?,Array.getElem?_eq_getElem h,Option.getD_some]
def behind (F:Fence)(n:Nat)(P:Program)(os:Array Oper)(m:Nat)(Q:Exit→Act→World→Prop):Exit→Act→World→Prop
  | .normal,a,w=>wpOpsIn F n P os Q [m] a w
  | e,a,w=>Q e a w
theorem any_last {os:Array Oper}{m:Nat}(hsz:os.size=m+1) (hw:waits os m=true):∀(fuel:Nat) (listed:Array Bool) (a:Act) (w:World),listed.size=m+1→listed.getD m false=false →
    ShutL os (fun j=>listed.getD j false=true)→wpAnyIn F n P .any os.pop (behind F n P os m Q) fuel listed.pop a w→wpAnyIn F n P .any os Q (fuel+1) listed a w:=by
  simp only [waits,Bool.and_eq_true]at hw
  obtain ⟨hasc,hgu,hanc⟩:=hw
  have hpop:∀j,j<m→os.pop[j]?=os[j]?:=fun j hj=>by
    rw [Array.getElem?_pop]
    rw [if_pos (by omega)]
  have hlp:∀(l:Array Bool),l.size=m+1→∀j d,j<m→l.pop.getD j d=l.getD j d:=fun l hl j d hj=>by
    simp only [Array.getD_eq_getD_getElem?,Array.getElem?_pop]
    rw [if_pos (by omega)]
  have hdep:∀i,i<m+1→∀d∈depsAt os i,d<i:=fun i hi d hd=>by
    simp only [depsAsc,List.all_eq_true,List.mem_range,hsz]at hasc
    exact blt_lt (hasc i hi d hd)
  have hready:∀(listed:Array Bool),listed.size=m+1→∀i,i<m→(i∈Region.ready .any os.pop listed.pop↔i∈Region.ready .any os listed):=by
    intro listed hl i hi
    rw [mem_ready,mem_ready,hpop i hi,hlp listed hl i true hi]
    constructor
    · rintro ⟨h1,o,h2,h3⟩
      refine ⟨h1,o,h2,fun e he hb=>?_⟩
      have:=h3 e he hb
      rwa [hlp listed hl e.on false (by have:=hdep i (by omega) e.on ((dep_mem h2).2 ⟨e,he,hb,rfl⟩);omega)]at this
    · rintro ⟨h1,o,h2,h3⟩
      refine ⟨h1,o,h2,fun e he hb=>?_⟩
      rw [hlp listed hl e.on false (by have:=hdep i (by omega) e.on ((dep_mem h2).2 ⟨e,he,hb,rfl⟩);omega)]
      exact h3 e he hb
  have hlast:∀(listed:Array Bool),listed.size=m+1→ShutL os (fun j=>listed.getD j false=true)→m∈Region.ready .any os listed→∀j,j<m→listed.getD j false=true:=by
    intro listed hl hs hm j hj
    rw [mem_ready]at hm
    obtain ⟨_,o,ho,h3⟩:=hm
    simp only [List.all_eq_true,List.mem_range]at hanc
    have:=hanc j hj
    rw [List.contains_iff_mem]at this
    refine ancs_ok hs m _ (fun d hd=>?_) j this
    obtain ⟨e,he,hb,rfl⟩:=(dep_mem ho).1 hd
    exact h3 e he hb
  have hnone:∀(listed:Array Bool),listed.size=m+1→Region.ready .any os.pop listed.pop=[]→∀j,j<m→listed.getD j false=true:=by
    intro listed hl hr j
    induction j using Nat.strongRecOn with
    | _ j ih =>
      intro hj
      cases hc:listed.getD j false with
      | true=>rfl
      | false =>
        exfalso
        have hlt:j<os.size:=by omega
        have ho:os[j]?=some os[j]:=Array.getElem?_eq_getElem hlt
        have:j∈Region.ready .any os.pop listed.pop:=by
          rw [hready listed hl j hj,mem_ready]
          refine ⟨by rw [getD_tf (by omega)];exact hc,_,ho,fun e he hb=>?_⟩
          have hd:=hdep j (by omega) e.on ((dep_mem ho).2 ⟨e,he,hb,rfl⟩)
          exact ih e.on hd (by omega)
        rw [hr]at this;cases this
  have hall:∀(listed:Array Bool),listed.size=m+1→(∀j,j<m→listed.getD j false=true)→∀j,j<os.size→(listed.setIfInBounds m true).getD j true=true:=by
    intro listed hl h j hj
    by_cases hjm:j=m
    · subst hjm;simp [Array.getD_eq_getD_getElem?,hl]
    · rw [getD_set_ne true (Ne.symm hjm),getD_tf (by omega)]
      exact h j (by omega)
  have hend:∀(fuel:Nat) (listed:Array Bool) (a:Act) (w:World),listed.size=m+1→listed.getD m false=false→ShutL os (fun j=>listed.getD j false=true)→(∀j,j<m→listed.getD j false=true)→wpOpsIn F n P os Q [m] a w→wpAnyIn F n P .any os Q (fuel+1) listed a w:=by
    intro fuel listed a w hl hlm hs h hq
    have hms:m<os.size:=by omega
    have ho:os[m]?=some os[m]:=Array.getElem?_eq_getElem hms
    have hmr:m∈Region.ready .any os listed:=by
      rw [mem_ready]
      refine ⟨by rw [getD_tf (by omega)];exact hlm,_,ho,fun e he hb=>?_⟩
      exact h e.on (hdep m (by omega) e.on ((dep_mem ho).2 ⟨e,he,hb,rfl⟩))
    refine ⟨fun hr=>(by rw [hr]at hmr;cases hmr),fun i hi=>?_⟩
    have him:i=m:=by
      rw [mem_ready]at hi
      obtain ⟨h1,o,h2,_⟩:=hi
      have hi2:i<os.size:=(Array.getElem?_eq_some_iff.1 h2).1
      by_cases hlt:i<m
      · rw [getD_tf (by omega),h i hlt]at h1;cases h1
      · omega
    subst him
    rw [wpOpsIn_cons]at hq
    refine wpOpIn_mono (fun a w hk=>?_) hq
    exact any_full _ _ (hall listed hl h) hk
  intro fuel
  induction fuel with
  | zero =>
    intro listed a w hl hlm hs hh
    have hr:=hh.1
    have hq:=hh.2
    exact hend 0 listed a w hl hlm hs (hnone listed hl hr) hq
  | succ fuel ih =>
    intro listed a w hl hlm hs hh
    obtain ⟨hq,hi'⟩:=hh
    cases hr:Region.ready .any os.pop listed.pop with
    | nil=>exact hend (fuel+1) listed a w hl hlm hs (hnone listed hl hr) (hq hr)
    | cons x xs =>
      have hxm:∀i,i∈Region.ready .any os.pop listed.pop→i<m:=fun i hi=>by
        rw [mem_ready]at hi
        obtain ⟨_,o,h2,_⟩:=hi
        have:=(Array.getElem?_eq_some_iff.1 h2).1
        simp at this;omega
      have hx:x∈Region.ready .any os.pop listed.pop:=by rw [hr];simp
      have hxl:=(hready listed hl x (hxm x hx)).1 hx
      refine ⟨fun h=>(by rw [h]at hxl;cases hxl),fun i hi=>?_⟩
      by_cases him:i=m
      · subst him
        have:=hlast listed hl hs hi x (hxm x hx)
        rw [mem_ready]at hxl
        rw [getD_tf (by have:=hxm x hx;omega),this]at hxl
        cases hxl.1
      · have hilt:i<m:=by
          rw [mem_ready]at hi
          obtain ⟨_,o,h2,_⟩:=hi
          have:=(Array.getElem?_eq_some_iff.1 h2).1
          omega
        have h1:=hi' i ((hready listed hl i hilt).2 hi)
        have hlo:(listed.setIfInBounds i true).pop=listed.pop.setIfInBounds i true:=by
          apply Array.ext_getElem?
          intro j
          simp only [Array.getElem?_pop,Array.getElem?_setIfInBounds,Array.size_setIfInBounds,Array.size_pop]
          by_cases hj:j<listed.size-1
          · simp only [if_pos hj]
            by_cases hij:i=j
            · subst hij;simp [hj];omega
            · simp [hij]
          · simp only [if_neg hj]
            by_cases hij:i=j
            · subst hij;omega
            · simp [hij]
        have hrec:∀(a:Act) (w:World),wpAnyIn F n P .any os.pop (behind F n P os m Q) fuel (listed.pop.setIfInBounds i true) a w→wpAnyIn F n P .any os Q (fuel+1) (listed.setIfInBounds i true) a w:=by
          intro a w hk
          refine ih _ a w (by simp [hl]) ?_ ?_ (by rw [hlo];exact hk)
          · rw [getD_set_ne false him];exact hlm
          · intro j hj d hd
            have hi2:=hi
            rw [mem_ready]at hi2
            obtain ⟨_,o,h2,h3⟩:=hi2
            by_cases hji:j=i
            · subst hji
              obtain ⟨e,he,hb,rfl⟩:=(dep_mem h2).1 hd
              exact getD_set_true (h3 e he hb)
            · rw [getD_set_ne false (Ne.symm hji)]at hj
              exact getD_set_true (hs j hj d hd)
        have ho:=hpop i hilt
        unfold wpOpIn at h1 ⊢
        rw [ho]at h1
        split at h1
        · rename_i he;exact hrec a w h1
        · rename_i o he
          have hwant:Region.wanted o (yielded os.pop a.tmps)=Region.wanted o (yielded os a.tmps):=by
            unfold Region.wanted
            split
            · rfl
            · rename_i j want hg
              have:j<m:=by
                simp only [guardsIn,List.all_eq_true,List.mem_range]at hgu
                have:=hgu i hilt
                rw [he]at this
                simp only [Option.bind_some,hg]at this
                exact blt_lt this
              unfold yielded
              rw [hpop j this]
          rw [hwant]at h1
          split at h1
          · rename_i hwt
            rw [if_pos hwt]
            refine Oper.wpIn_mono (fun a w hk=>hrec a w hk) ⟨h1.1,upon_q (fun _ _ _ h=>h) (fun h=>h) h1.2⟩
          · rename_i hwt
            rw [if_neg hwt]
            exact ⟨h1.1,hrec _ _ h1.2⟩
end
def drawnW (P:Program)(self:Self)(rd:Option Nat)(id:Nat)(os:Array Oper)(s:St):Option Out :=
  match waits os (os.size-1)&&Nat.blt 0 os.size with
  | true=>(match drawnX P self rd id os.pop s with
    | some (.ex .normal s')=>runOps P self rd os [os.size-1] s'
    | _=>none)
  | false=>drawnX P self rd id os s
theorem drawnW_ok {P:Program}(hN:NoNG P) (hm:P.follows .mixedOrders=true):DrawnOk P drawnW:=by
  intro self hs rd id os s o h
  unfold drawnW at h
  split at h
  · rename_i hw
    rw [Bool.and_eq_true]at hw
    obtain ⟨hw,hz⟩:=hw
    have hz:0<os.size:=blt_lt hz
    obtain ⟨m,hm1⟩:∃m,os.size=m+1:=⟨os.size-1,by omega⟩
    rw [hm1,Nat.add_sub_cancel]at h hw
    split at h
    case h_2=>cases h
    rename_i s' hd1
    obtain ⟨s2,he,hA⟩:=drawnX_any hN hs hd1
    cases he
    by_cases hb:s.h.base≤s.h.bl.length
    · obtain ⟨hp,hA⟩:=hA hb
      have hb':s'.h.base≤s'.h.bl.length:=by rw [hp.base];exact Nat.le_trans hb hp.len
      obtain ⟨e,s3,rfl,hp2,hh⟩:=runOps_sound hN hs _ s' o h hb'
      refine fun _=>⟨hp.trans hp2,?_⟩
      intro K w0 φ w a F n hI ht hd hF
      refine wpIn_region_any hm ?_
      rw [hm1]
      have hrep:∀j,(Array.replicate (m+1) false).getD j false=false:=fun j=>by
        simp only [Array.getD_eq_getD_getElem?,Array.getElem?_replicate]
        split<;>rfl
      refine any_last hm1 hw m _ a _ (by simp) (hrep m) (fun i hi=>by have hi:(Array.replicate (m+1) false).getD i false=true:=hi;rw [hrep]at hi;cases hi) ?_
      have:=hA K w0 φ w a F n rd (behind F n P os m (CodeR K w0 φ e s3)) hI ht hd hF (fun x a w' hc=>?_)
      · have e1:(Array.replicate (m+1) false).pop=Array.replicate os.pop.size false:=by
          apply Array.ext_getElem?
          intro j
          simp only [Array.getElem?_pop,Array.getElem?_replicate,Array.size_replicate,Array.size_pop,hm1]
          by_cases hj:j<m
          · simp [hj];omega
          · simp [hj]
        have e2:os.pop.size=m:=by simp [hm1]
        rw [e1]
        rw [e2]at this ⊢
        exact this
      · obtain ⟨φ',hle,hx,hT,hD,hI'⟩:=hc
        cases hx
        exact hh K w0 φ' w' a F n _ hI' hT hD (hF.mono hle) (fun x a w' hq=>hq.mono hle)
    · obtain ⟨e,s3,rfl⟩:=step_ok.runOps_ex _ _ _ h
      exact fun h=>absurd h hb
  · exact drawnX_ok hN hm self hs rd id os s o h
abbrev vT:Value:=.bool true
abbrev vF:Value:=.bool false
abbrev vI (n:Nat):Value:=.int .i64 (.ofNat n)
abbrev vJ (n:Nat):Value:=.int .i64 (.negSucc n)
structure CF where
  g:Nat
  args:List Value
  u:Value
def CF.Ok (P:Program)(c:CF):Prop:=∀h,Fact P (.call c.g ⟨c.args⟩ h) (.ret c.u h)
def lookCF (f:Nat)(vs:List Value)(h:Hp):List CF→Option AT
  | []=>none
  | c::r=>match Nat.beq f c.g with
    | true=>(match eqLs (eqVn 8) vs c.args with
      | true=>some (.leaf (.ret c.u h))
      | false=>lookCF f vs h r)
    | false=>lookCF f vs h r
def tabA (l:List CF):Ans:=fun t=>match t with
  | .call f vs h=>lookCF f vs.toList h l
  | _=>none
inductive CFs (P:Program):List CF→Prop
  | nil:CFs P []
  | cons {c:CF} {l:List CF} (h:c.Ok P) (r:CFs P l):CFs P (c::l)
theorem lookCF_ok {P:Program}{f:Nat}{vs:List Value}{h:Hp}:∀{l:List CF},CFs P l→∀{x:AT}{o:Out},lookCF f vs h l=some x→x.out=some o→Fact P (.call f ⟨vs⟩ h) o
  | [],_,x,o,hx,_=>by cases hx
  | c::r,hl,x,o,hx,ho=>by
    cases hl with
    | cons hc hr =>
      unfold lookCF at hx
      split at hx
      · rename_i hf
        split at hx
        · rename_i ha
          simp only [Option.some.injEq]at hx
          subst hx
          simp only [AT.out,Option.some.injEq]at ho
          subst ho
          rw [Nat.eq_of_beq_eq_true hf,eqLs_eq (fun _ _ h=>eqVn_eq h) ha]
          exact hc h
        · exact lookCF_ok hr hx ho
      · exact lookCF_ok hr hx ho
theorem tabA_ok {P:Program}{l:List CF}(hl:CFs P l):Known P (tabA l):=by
  intro t x o h ho
  unfold tabA at h
  split at h
  · rename_i f vs hh
    exact lookCF_ok hl h ho
  · cases h
def frDs (f:Value→Option Value):List Value→Option (List Value)
  | []=>some []
  | v::r=>match f v with
    | some u=>(match frDs f r with
      | some l=>some (u::l)
      | none=>none)
    | none=>none
def frC (f:Value→Option Value)(v:Value):Option Value:=match v with
  | .slice none 0 0=>some (lstV ⟨[]⟩ 0 0 1)
  | v=>f v
def frD (bl:List Ob):Nat→Value→Option Value
  | 0,_=>none
  | n+1,v=>match v with
    | .slice (some ⟨b,off,none⟩) len sz=>(match nthO bl b with
      | some (.cells c false)=>(match frDs (frC (frD bl n)) c.toList with
        | some l=>if off+len*sz≤c.size then some (lstV ⟨l⟩ off len sz) else none
        | none=>none)
      | _=>none)
    | .pointer (some ⟨b,off,none⟩)=>(match nthO bl b with
      | some (.cells c false)=>(match frDs (frC (frD bl n)) c.toList with
        | some l=>some (dptV ⟨l⟩ off)
        | none=>none)
      | _=>none)
    | .agg ⟨l⟩=>(match frDs (frD bl n) l with
      | some l=>some (.agg ⟨l⟩)
      | none=>none)
    | .iface t v=>(match frD bl n v with
      | some v=>some (.iface t v)
      | none=>none)
    | .func (.func g) ⟨l⟩ ⟨m⟩=>(match frDs (frD bl n) l,frDs (frD bl n) m with
      | some l,some m=>some (.func (.func g) ⟨l⟩ ⟨m⟩)
      | _,_=>none)
    | v=>if fz0 v then some v else none
def frDV (bl:List Ob)(v:Value):Option Value:=match v with
  | .tuple ⟨x::l⟩=>(match frDs (frD bl 8) (x::l) with
    | some l=>some (.tuple ⟨l⟩)
    | none=>none)
  | v=>frD bl 8 v
def frDK:Kn
  | .ret v h=>(match frDV h.bl v with
    | some v=>some (.ret v ⟨[],0,[]⟩)
    | none=>none)
  | _=>none
section
variable {K:Nat→Prop}{w0 w:World} {φ:Phi}{X:List Ob}{z:Nat→Option Obj}
theorem frDs_ok {f:Value→Option Value}(hf:∀v u v',f v=some u→VR φ v v'→FR z u v'):∀{l us l':List Value},frDs f l=some us→VRl φ l l'→FRl z us l'
  | [],us,_,h,hv=>by
    cases hv
    simp only [frDs,Option.some.injEq]at h
    subst h;exact .nil
  | v::r,us,_,h,hv=>by
    cases hv with
    | cons h1 h2 =>
      simp only [frDs]at h
      split at h
      · rename_i u hu
        split at h
        · rename_i l hl
          simp only [Option.some.injEq]at h
          subst h
          exact .cons (hf _ _ _ hu h1) (frDs_ok hf hl h2)
        · cases h
      · cases h
theorem FRl.fn {z:Nat→Option Obj} {l l' m m':List Value}(g:FuncId) (h:FRl z l l') (h2:FRl z m m'):FR z (.func (.func g) ⟨l⟩ ⟨m⟩) (.func (.func g) ⟨l'⟩ ⟨m'⟩):=by
  have hh:∀{us ys:List Value},FRl z us ys→(⟨us⟩:Array Value).size=(⟨ys⟩:Array Value).size∧∀i,i<(⟨us⟩:Array Value).size→FR z ((⟨us⟩:Array Value).getD i undef) ((⟨ys⟩:Array Value).getD i undef):=by
    intro us ys hf
    refine ⟨by simpa using hf.agg.1,fun i hi=>?_⟩
    rcases hf.agg.2 i with h5 | h5
    · exact h5
    · simp at hi;omega
  exact .fn (hh h).1 (hh h).2 (hh h2).1 (hh h2).2
theorem cells_frl {c C:Array Value}{base:Nat}(hC:base+c.size≤C.size) (h2:∀(i:Nat) (v:Value),c[i]?=some v→∃v',C[base+i]?=some v'∧VR φ v v'):VRl φ c.toList ((C.toList.drop base).take c.size):=by
  have key:∀(l:List Value) (m:List Value),l.length=m.length→(∀(i:Nat) (v:Value),l[i]?=some v→∃v',m[i]?=some v'∧VR φ v v')→VRl φ l m:=by
    intro l
    induction l with
    | nil=>intro m hl _;cases m with
      | nil=>exact .nil
      | cons _ _=>simp at hl
    | cons x r ih=>intro m hl hh;cases m with
      | nil=>simp at hl
      | cons y s =>
        refine .cons ?_ (ih s (by simpa using hl) fun i v hv=>by simpa using hh (i+1) v (by simpa using hv))
        obtain ⟨v',h3,h4⟩:=hh 0 x rfl
        simp only [List.getElem?_cons_zero,Option.some.injEq]at h3
        rw [h3];exact h4
  refine key _ _ (by simp;omega) fun i v hv=>?_
  have hv2:c[i]?=some v:=by rw [← Array.getElem?_toList];exact hv
  obtain ⟨v',h3,h4⟩:=h2 i v hv2
  refine ⟨v',?_,h4⟩
  have hi:i<c.size:=by rw [Array.getElem?_eq_some_iff]at hv2;exact hv2.1
  rw [List.getElem?_take,if_pos hi,List.getElem?_drop,Array.getElem?_toList]
  exact h3
theorem FRl.cells {l:List Value}{C:Array Value}{base n:Nat}(h:FRl z l ((C.toList.drop base).take n)) (hC:base+n≤C.size):l.length=n∧∀i,i<(⟨l⟩:Array Value).size→FR z ((⟨l⟩:Array Value).getD i undef) (C.getD (base+i) undef):=by
  have hn:l.length=n:=by rw [h.agg.1];simp;omega
  refine ⟨hn,fun i hi=>?_⟩
  have hi':i<n:=by simpa [hn] using hi
  rcases h.agg.2 i with h1 | h1
  · have e:(⟨(C.toList.drop base).take n⟩:Array Value).getD i undef=C.getD (base+i) undef:=by
      rw [Array.getD_eq_getD_getElem?,Array.getD_eq_getD_getElem?]
      have:(⟨(C.toList.drop base).take n⟩:Array Value)[i]?=C[base+i]?:=by
        rw [← Array.getElem?_toList,List.getElem?_take,if_pos hi',List.getElem?_drop,Array.getElem?_toList]
      rw [this]
    rw [← e];exact h1
  · omega
theorem frC_ok {f:Value→Option Value}(hf:∀v u v',f v=some u→VR φ v v'→FR z u v'):∀v u v',frC f v=some u→VR φ v v'→FR z u v':=by
  intro v u v' h hv
  unfold frC at h
  split at h
  · cases h;cases hv;exact .lstZ _ _ _ _
  · exact hf _ _ _ h hv
theorem frD_ok (h:Made 0 z φ X w):∀{n:Nat} {v u v':Value},frD X n v=some u→VR φ v v'→FR z u v'
  | 0,_,_,_,hk,_=>by cases hk
  | n+1,v,u,v',hk,hv=>by
    have ih:∀v u v',frD X n v=some u→VR φ v v'→FR z u v':=fun v u v' h1 h2=>frD_ok h h1 h2
    unfold frD at hk
    split at hk
    · rename_i b off len sz
      rw [nthO_eq]at hk
      split at hk
      · rename_i c hb
        split at hk
        · rename_i l hl
          split at hk
          · rename_i hle
            simp only [Option.some.injEq]at hk
            subst hk
            obtain ⟨B,base,tot,C,el,fr,h3,hz,h8,h6⟩:=h.obs b _ hb (Nat.zero_le _)
            cases hv with
            | sliceZ _ a' k'=>exact .lstZ _ _ _ _
            | slice hφ hl1 hc =>
              rw [h3]at hφ;cases hφ
              obtain ⟨k1,k2⟩:=(frDs_ok (frC_ok ih) hl (cells_frl h8 h6)).cells h8
              exact .lst hz (by simpa [k1] using h8) k2 hl1 (by simpa [k1] using hle)
          · cases hk
        · cases hk
      · cases hk
    · rename_i b off
      rw [nthO_eq]at hk
      split at hk
      · rename_i c hb
        split at hk
        · rename_i l hl
          simp only [Option.some.injEq]at hk
          subst hk
          obtain ⟨B,base,tot,C,el,fr,h3,hz,h8,h6⟩:=h.obs b _ hb (Nat.zero_le _)
          cases hv with
          | ptr hφ =>
            rw [h3]at hφ;cases hφ
            obtain ⟨k1,k2⟩:=(frDs_ok (frC_ok ih) hl (cells_frl h8 h6)).cells h8
            exact .dpt hz (by simpa [k1] using h8) k2
        · cases hk
      · cases hk
    · rename_i l
      split at hk
      · rename_i us hl
        simp only [Option.some.injEq]at hk
        subst hk
        obtain ⟨⟨ys⟩,rfl,hs⟩:=hv.agg_inv
        exact (frDs_ok ih hl hs.toList).fr
      · cases hk
    · rename_i t x
      split at hk
      · rename_i y hy
        simp only [Option.some.injEq]at hk
        subst hk
        cases hv with
        | iface _ hv=>exact .iface _ (ih _ _ _ hy hv)
      · cases hk
    · rename_i g l m
      split at hk
      · rename_i us ws hl hm
        simp only [Option.some.injEq]at hk
        subst hk
        cases hv with
        | @fn _ _ first' _ cap' hg h1 h2 h3 h4 =>
          obtain ⟨first'⟩:=first'
          obtain ⟨cap'⟩:=cap'
          exact FRl.fn g (frDs_ok ih hl (VRs.toList (VRs.of h1 h2))) (frDs_ok ih hm (VRs.toList (VRs.of h3 h4)))
      · cases hk
    · split at hk
      · rename_i hf
        simp only [Option.some.injEq]at hk
        subst hk
        exact fz0_fr h hf hv
      · cases hk
theorem FRl.vrl {ψ:Phi} {l l':List Value}(h:FRl ψ.z l l'):VRl ψ l l':=by
  induction h with
  | nil=>exact .nil
  | cons h _ ih=>exact .cons h.vr ih
theorem frDV_ok {ψ:Phi}(h:Made 0 ψ.z φ X w) {v u v':Value}(hk:frDV X v=some u) (hv:VR φ v v'):VR ψ u v':=by
  unfold frDV at hk
  split at hk
  · rename_i x l
    split at hk
    · rename_i us hl
      simp only [Option.some.injEq]at hk
      subst hk
      obtain ⟨⟨ys⟩,rfl,hs⟩:=hv.tuple_inv rfl
      exact (frDs_ok (fun _ _ _ h1 h2=>frD_ok h h1 h2) hl hs.toList).vrl.vrs.tuple
    · cases hk
  · exact (frD_ok h hk hv).vr
end
section
variable {P:Program}
theorem Fact.liftD {f:FuncId}{args:Array Value}{v u:Value}{h1:Hp}(hf:Fact P (.call f args ⟨[],0,[]⟩) (.ret v h1)) (hfz:frDV h1.bl v=some u)
    (ha:args.toList.all pureA=true) (h:Hp):Fact P (.call f args h) (.ret u h):=by
  obtain ⟨_,hh⟩:=hf.1 (Nat.le_refl _)
  refine ⟨fun hb=>⟨Pres.refl _,?_⟩,trivial⟩
  intro K w0 φ w args' n hI hA
  have hI':Inv K w0 φ ([]++h.bl) w:=hI
  have hN:=hI'.narrow (H0:=[]) (fun b ob h=>by simp at h)
  have hA1:VRs (cut φ ([]:List Ob).length) args args':=VRs.of hA.size fun i hi=>scT_cut (all_getD (p:=pureA) ha hi) (hA.getD i)
  refine (hh _ w _ w args' n hN hA1).mono ?_
  intro e w' he
  cases e with
  | returned v' =>
    obtain ⟨φ',hle,hv',hF⟩:=he
    have hZ:=hF.freeze (H1:=[]) (k:=0) (fun b ob h=>by simp at h)
    have k1:=frDV_ok (ψ:=⟨fun b=>if b<([]:List Ob).length+0 then φ' b else none,zF φ' h1.bl 0 w'⟩) (zF_made hF 0) hfz hv'
    have hle2:le (cut φ ([]:List Ob).length) ⟨fun b=>if b<([]:List Ob).length+0 then φ' b else none,zF φ' h1.bl 0 w'⟩:=by
      refine ⟨fun b x hx=>?_,fun B o hB=>(zF_made hF 0).le B o (hle.zz B o hB)⟩
      rw [cut_ge (show ([]:List Ob).length≤b from Nat.zero_le b)]at hx;cases hx
    obtain ⟨φ'',q1,q2,q3⟩:=hI'.widen (H1:=[]) (X:=[]) hZ hle2 .nil
    refine ⟨φ'',q1,?_,q3⟩
    have hc:cut ⟨fun b=>if b<([]:List Ob).length+0 then φ' b else none,zF φ' h1.bl ([]:List Ob).length w'⟩ ([]:List Ob).length=⟨fun b=>if b<([]:List Ob).length+0 then φ' b else none,zF φ' h1.bl 0 w'⟩:=by
      unfold cut
      simp
    rw [hc]at q2
    exact k1.mono q2
  | panicked ch=>exact he.elim
  | outgrown=>exact he.elim
end
def hasApp (os:Array Oper):Bool:=os.toList.any fun o=>match o.op with
  | .call { callee:=.builtin b,.. }=>(match b with | .append | .copy=>true | _=>false)
  | _=>false
def forceK (k:Kn):Kn:=fun o=>match o with
  | .ex e s=>forceE s.h.bl fun bl=>k (.ex e ⟨s.t,s.d,⟨bl,s.h.base,s.h.wr⟩⟩)
  | o=>k o
theorem forceK_eq (k:Kn):forceK k=k:=by
  funext o
  cases o with
  | ex e s=>simp only [forceK,forceE_eq]
  | _=>rfl
def catL:List Value→Nat→Nat→List Value→List Value
  | [],_,_,m=>m
  | x::r,off,n,m=>match off with
    | o+1=>catL r o n m
    | 0=>(match n with
      | k+1=>x::catL r 0 k m
      | 0=>m)
theorem catL_eq:∀(l:List Value) (off n:Nat) (m:List Value),catL l off n m=(l.drop off).take n++m
  | [],off,n,m=>by simp [catL]
  | x::r,0,0,m=>by simp [catL]
  | x::r,0,k+1,m=>by simp [catL,catL_eq r 0 k m]
  | x::r,o+1,n,m=>by simp [catL,catL_eq r o n m]
theorem catA_eq (c:Array Value)(off n:Nat)(m:Array Value):(⟨catL c.toList off n m.toList⟩:Array Value)=c.extract off (off+n)++m:=by
  apply Array.ext'
  rw [catL_eq,Array.toList_append,Array.toList_extract,List.extract]
  simp
def appendZ (P:Program)(h:Hp)(ts tx:TypeId)(s x:Value)(k:Value→Hp→Option Out):Option Out :=
  match P.underlying ts,P.underlying tx with
  | some (.slice e),some d =>
    if intB d=true then none else
    match P.info? e,zeroB P e with
    | some inf,some z =>
      natF inf.size fun isz=>natF inf.bytes fun iby =>
      match s,lenB x with
      | .slice base sl sz,some n =>
        natF n fun n =>
        cond (decide (n=0)) (k (.slice base sl sz) h)
        (newC h.bl isz n x fun news =>
          cond (decide (news.size=n*isz)&&(oneAll news&&decide (z.cells.size=isz))) (cond (decide ((sl+n)*iby≤140737488355328)&&decide (sl+n≤4611686018427387904))
            (match base with
            | none=>cond (decide (sl=0)) (k (.slice (some ⟨h.bl.length,0,none⟩) n isz) (h.push (.cells news false))) none
            | some ⟨b,off,none⟩ =>
              match nthO h.bl b with
              | some (.cells c false) =>
                cond (decide (sz=isz)) (cond (decide (off+sl*isz≤c.size))
                  (k (.slice (some ⟨h.bl.length,0,none⟩) (sl+n) isz) ((h.put b .dead).push (.cells ⟨catL c.toList off (sl*isz) news.toList⟩ false))) none) none
              | _=>none
            | _=>none) none) none)
      | _,_=>none
    | _,_=>none
  | _,_=>none
theorem appendZ_eq:appendZ=appendC:=by
  funext P h ts tx s x k
  simp only [appendZ,appendC,catA_eq]
  rfl
def loudZ (P:Program) (ρ:Operand→Value)(h:Hp)(o:Oper)(k:Ends):Option Out :=
  match o.op with
  | .call { callee:=.builtin .append,args,argTypes } =>
    match args.toList,argTypes.toList with
    | [s,x],[ts,tx]=>if okO s&&okO x then appendZ P h ts tx (ρ s) (ρ x) k.val else none
    | _,_=>none
  | _=>loudC P ρ h o k
theorem loudZ_eq:loudZ=loudC:=by
  funext P ρ h o k
  unfold loudZ
  split
  · rename_i args ts ho
    unfold loudC
    simp only [ho,appendZ_eq]
    rfl
  · rfl
def opDZ (P:Program)(self:SelfC)(T:List Value)(h:Hp)(o:Oper)(k:Value→Hp→Bool→Option Out):Option Out :=
  match o.op with
  | .pick c a b=>if okO c&&okO a&&okO b then (match evalT T c with | .bool t=>cond t (k (evalT T a) h false) (k (evalT T b) h false) | _=>none) else none
  | _ =>
    match symR P (evalT T) h.bl o with
    | some (b,v)=>cond b (k v h false) none
    | none=>match aread P (evalT T) h.bl o with
      | some v=>k v h false
      | none=>loudZ P (evalT T) h o {
        val:=fun v h'=>heapK h' fun h'=>k v h' true
        enter:=fun f args=>headsK args fun args=>self (.call f ⟨args⟩ h) fun | .ret v h'=>k v h' true | _=>none
        yield:=fun l args=>headsK args fun args=>self (.round l ⟨args⟩ h) fun | .ret v h'=>k v h' true | _=>none
        defer:=fun _=>none
        panic:=fun _=>none }
theorem opDZ_eq:opDZ=opD:=by
  funext P self T h o k
  simp only [opDZ,loudZ_eq]
  rfl
def drunZ (P:Program)(self:SelfC)(os:Array Oper):List Nat→List Value→Hp→(List Rec→List Value→Hp→Option Out)→Option Out
  | [],T,h,k=>k [] T h
  | i::r,T,h,k =>
    match os[i]? with
    | none=>none
    | some o =>
      guardC os o T
        (fun T=>opDZ P self T h o fun v h' loud=>headK v fun v=>setK' T o.dst v fun T'=>drunZ P self os r T' h' fun l T2 h2=>k (⟨i,o,T,v,h,h',loud⟩::l) T2 h2)
        (fun T=>setK' T o.dst undef fun T'=>drunZ P self os r T' h fun l T2 h2=>k (⟨i,o,T,undef,h,h,false⟩::l) T2 h2)
theorem drunZ_eq (P:Program)(self:SelfC)(os:Array Oper):∀l,drunZ P self os l=drunC P self os l
  | []=>rfl
  | i::r=>by
    funext T h k
    simp only [drunZ,drunC,drunZ_eq P self os r,opDZ_eq]
    rfl
def drawnFZ (P:Program)(self:SelfC)(os:Array Oper)(s:St)(k:Ex→St→Option Out):Option Out :=
  if planOk os (late os) (mkClo os (late os) (List.replicate os.size 0)) then
    drunZ P self os (late os) s.t s.h fun recs T h =>
      if floatOk (mkClo os (late os) (List.replicate os.size 0)) [] recs&&recs.all fun r=>!(r.loud&&isAl r.o)||r.o.dst.all fun t=>decide (t<s.t.length) then
        fchkC P os (mkClo os (late os) (List.replicate os.size 0)) recs (k .normal { t:=T,d:=s.d,h:=h })
      else none
  else none
def drawnNZ (P:Program)(self:SelfC)(os:Array Oper)(s:St)(k:Ex→St→Option Out):Option Out :=
  if planOk os (Region.linearise .any os 0) (mkClo os (Region.linearise .any os 0) (List.replicate os.size 0)) then
    drunZ P self os (Region.linearise .any os 0) s.t s.h fun recs T h =>
      chkC P os (mkClo os (Region.linearise .any os 0) (List.replicate os.size 0)) recs (k .normal { t:=T,d:=s.d,h:=h })
  else none
def drawnXZ (P:Program)(self:SelfC)(os:Array Oper)(s:St)(k:Ex→St→Option Out):Option Out :=
  match floaty os (mkClo os (Region.linearise .any os 0) (List.replicate os.size 0)) with
  | true=>drawnFZ P self os s k
  | false=>drawnNZ P self os s k
theorem drawnXZ_eq:drawnXZ=drawnXC:=by
  funext P self os s k
  simp only [drawnXZ,drawnXC,drawnFZ,drawnFC,drawnNZ,drawnC,drunZ_eq]
  rfl
def opZ (P:Program) (ρ:Operand→Value)(h:Hp)(o:Oper)(k:Ends):Option Out :=
  match o.op with
  | .pick c a b=>if okO c&&okO a&&okO b then (match ρ c with | .bool t=>cond t (k.val (ρ a) h) (k.val (ρ b) h) | _=>none) else none
  | _ =>
    match symR P ρ h.bl o with
    | some (b,v)=>cond b (k.val v h) none
    | none=>match aread P ρ h.bl o with
      | some v=>k.val v h
      | none=>loudZ P ρ h o k.heap
theorem opZ_eq:opZ=opC:=by
  funext P ρ h o k
  simp only [opZ,loudZ_eq]
  rfl
def runOpsZ (P:Program)(self:SelfC)(rd:Option Nat)(os:Array Oper):List Nat→St→(Ex→St→Option Out)→Option Out
  | [],s,k=>k .normal s
  | i::r,s,k =>
    match os[i]? with
    | none=>runOpsZ P self rd os r s k
    | some o =>
      guardC os o s.t
        (fun t=>opZ P (evalT t) s.h o {
          val:=fun v h=>setK' t o.dst v fun t=>runOpsZ P self rd os r { t:=t,d:=s.d,h:=h } k
          enter:=fun f args=>headsK args fun args=>self (.call f ⟨args⟩ s.h) fun
            | .ret v h=>setK' t o.dst v fun t=>runOpsZ P self rd os r { t:=t,d:=s.d,h:=h } k
            | .pan v h=>k (.panic v) { t:=t,d:=s.d,h:=h }
            | _=>none
          yield:=fun l args=>headsK args fun args=>self (.round l ⟨args⟩ s.h) fun
            | .ret v h=>setK' t o.dst v fun t=>runOpsZ P self rd os r { t:=t,d:=s.d,h:=h } k
            | _=>none
          defer:=fun d=>if rd.isNone then setK' t o.dst undef fun t=>runOpsZ P self rd os r { t:=t,d:=d::s.d,h:=s.h } k else none
          panic:=fun v=>k (.panic v) { t:=t,d:=s.d,h:=s.h } })
        (fun t=>setK' t o.dst undef fun t=>runOpsZ P self rd os r { t:=t,d:=s.d,h:=s.h } k)
theorem runOpsZ_eq (P:Program)(self:SelfC)(rd:Option Nat)(os:Array Oper):∀l,runOpsZ P self rd os l=runOpsC P self rd os l
  | []=>rfl
  | i::r=>by
    funext s k
    simp only [runOpsZ,runOpsC,runOpsZ_eq P self rd os r,opZ_eq]
    rfl
def drawnWZ (P:Program)(self:SelfC)(rd:Option Nat)(os:Array Oper)(s:St)(k:Ex→St→Option Out):Option Out :=
  match waits os (os.size-1)&&Nat.blt 0 os.size with
  | true=>drawnXZ P self os.pop s fun e s'=>(match e with
    | .normal=>runOpsZ P self rd os [os.size-1] s' k
    | _=>none)
  | false=>drawnXZ P self os s k
theorem drawnWZ_ok {P:Program}{self:SelfC}{sd:Self}(hs:CpsOk self sd) {rd:Option Nat}{id:Nat}{os:Array Oper}{s:St}{k:Ex→St→Option Out}{r:Out}(hc:drawnWZ P self rd os s k=some r) :
    ∃e s',drawnW P sd rd id os s=some (.ex e s')∧k e s'=some r:=by
  unfold drawnWZ at hc
  unfold drawnW
  by_cases hw:(waits os (os.size-1)&&Nat.blt 0 os.size)=true
  · rw [hw]at hc ⊢
    simp only [drawnXZ_eq]at hc
    obtain ⟨e,s',h1,h2⟩:=drawnXC_ok (rd:=rd) (id:=id) hs hc
    simp only [h1]
    cases e with
    | normal =>
      simp only at h2 ⊢
      rw [runOpsZ_eq]at h2
      exact runOpsC_ok hs h2
    | _=>cases h2
  · rw [Bool.eq_false_iff.2 hw]at hc ⊢
    simp only [drawnXZ_eq]at hc
    exact drawnXC_ok hs hc
def stepZ (P:Program)(self:SelfC):SelfC:=fun t k=>match t with
  | .code rd (.region id os dr) s=>(match dr with
    | true=>drawnWZ P self rd os s fun e s'=>(match hasApp os with
      | true=>forceK k (.ex e s')
      | false=>k (.ex e s'))
    | false=>(match hasApp os with
      | true=>runOpsZ P self rd os (List.range os.size) s fun e s'=>forceK k (.ex e s')
      | false=>stepC P self (.code rd (.region id os false) s) k))
  | t=>stepC P self t k
theorem stepF_drawn {P:Program}{sd:Self}{t:Task}{d1 d2:Program→Self→Option Nat→Nat→Array Oper→St→Option Out}(h:∀rd id os s,t≠.code rd (.region id os true) s):stepF d1 P sd t=stepF d2 P sd t:=by
  cases t with
  | code rd c s =>
    cases c with
    | region id os dr =>
      cases dr with
      | true=>exact (h rd id os s rfl).elim
      | false=>rfl
    | _=>rfl
  | _=>rfl
theorem stepZ_ok {P:Program}{self:SelfC}{sd:Self}(hs:CpsOk self sd):CpsOk (stepZ P self) (stepF drawnW P sd):=by
  intro t k r hc
  unfold stepZ at hc
  split at hc
  · rename_i rd id os dr s
    cases dr with
    | true =>
      simp only at hc
      obtain ⟨e,s',h1,h2⟩:=drawnWZ_ok (id:=id) hs hc
      refine ⟨.ex e s',by simpa only [stepF,if_true] using h1,?_⟩
      split at h2
      · rw [forceK_eq]at h2;exact h2
      · exact h2
    | false =>
      simp only at hc
      split at hc
      · rw [runOpsZ_eq,forceK_eq]at hc
        obtain ⟨o,h1,h2⟩:=stepC_ok hs (.code rd (.region id os false) s) k r hc
        exact ⟨o,(stepF_drawn (fun _ _ _ _ h=>by cases h)).trans h1,h2⟩
      · obtain ⟨o,h1,h2⟩:=stepC_ok hs (.code rd (.region id os false) s) k r hc
        exact ⟨o,(stepF_drawn (fun _ _ _ _ h=>by cases h)).trans h1,h2⟩
  · rename_i hn
    obtain ⟨o,h1,h2⟩:=stepC_ok hs _ k r hc
    exact ⟨o,(stepF_drawn (fun rd id os s h=>hn rd id os true s h)).trans h1,h2⟩
def evZ (P:Program)(oc:Task→Kn→Option (Option Out)):Nat→SelfC
  | 0,_,_=>none
  | n+1,t,k=>match oc t k with
    | some r=>r
    | none=>stepZ P (evZ P oc n) t k
theorem evZ_ok {P:Program}{oc:Task→Kn→Option (Option Out)}{orc:Self}(ho:OcOk oc orc):∀n,CpsOk (evZ P oc n) (iterO orc drawnW P n)
  | 0=>fun _ _ _ h=>by cases h
  | n+1=>by
    intro t k r h
    simp only [evZ]at h
    simp only [iterO]
    split at h
    · rename_i r' hr
      subst h
      obtain ⟨o,h1,h2⟩:=ho.1 _ _ _ hr
      rw [h1];exact ⟨_,rfl,h2⟩
    · rename_i hr
      rw [ho.2 _ _ hr]
      exact stepZ_ok (evZ_ok ho n) t k r h
theorem Known.factZ {P:Program}(hN:NoNG P) (hm:P.follows .mixedOrders=true) {a:Ans}(hk:Known P a) {n:Nat}{t:Task}{k:Kn}{r:Out}(h:evZ P a.c n t k=some r):∃o,k o=some r∧Fact P t o:=by
  obtain ⟨o',h1,h2⟩:=evZ_ok (P:=P) a.oc n t k r h
  have hh:=iterO_ok (drawn:=drawnW) hN (drawnW_ok hN hm) hk.selfOk hk.loopOk n
  refine ⟨o',h2,hh.1 _ _ h1,?_⟩
  unfold LoopFact
  split
  · exact fun hb=>hh.2 _ _ _ _ _ h1 hb
  · trivial
def CF.chk (P:Program)(l:List CF)(n:Nat)(c:CF):Bool:=match evZ P (tabA l).c n (.call c.g ⟨c.args⟩ ⟨[],0,[]⟩) frDK with
  | some (.ret u ⟨[],0,[]⟩)=>(match eqVn 12 u c.u with
    | true=>c.args.all pureA
    | false=>false)
  | _=>false
section
variable {P:Program}(hN:NoNG P) (hm:P.follows .mixedOrders=true)
include hN hm
theorem CF.of2 {l:List CF}(hl:CFs P l) (n:Nat) {c:CF}(h:c.chk P l n=true):c.Ok P:=by
  unfold CF.chk at h
  split at h
  · rename_i u he
    split at h
    · rename_i hu
      have e:=eqVn_eq hu
      subst e
      intro hp
      obtain ⟨o,h3,hf⟩:=(tabA_ok hl).factZ hN hm he
      cases o with
      | ret v h' =>
        simp only [frDK]at h3
        split at h3
        · rename_i u hu
          simp only [Option.some.injEq,Out.ret.injEq,and_true]at h3
          subst h3
          exact hf.liftD hu h hp
        · cases h3
      | _=>cases h3
    · cases h
  · cases h
end
end
end Go.Gi
namespace Go.Proofs.Ytoghoeebiddblaa
open Go.Gi Go.RowKit
noncomputable section
set_option maxRecDepth 100000
set_option maxHeartbeats 4000000
def wKnown0:Array Value:=⟨[.string ⟨⟨[102,97,114,109]⟩⟩,vI 2000,vI 5000,vI 0,vI 999,vI 100,.string ⟨⟨[108,97,107,101]⟩⟩,vI 2500,vI 2600,vI 1500,vI 1600,vJ 0]⟩
def wKnown1:Array Value:=⟨[vI 0,vI 2999,vI 0,vI 1999,vI 1000,lstV ⟨[vJ 999,vI 500,vI 1,vI 0,vI 200]⟩ 0 1 5,lstV wKnown0 0 2 6,vJ 1999,vI 500,vI 0,vI 100,vI 200,vI 10,vI 20]⟩
def wKnown2:Array Value:=⟨[.func (.func 133) ⟨[]⟩ ⟨[dptV ⟨[vJ 999,vI 500,vI 1,vI 0,vI 200]⟩ 0]⟩]⟩
def wKnown3:Array Value:=⟨[.func (.func 134) ⟨[]⟩ ⟨[dptV ⟨[vJ 999,vI 500,vI 1,vI 0,vI 200]⟩ 0]⟩]⟩
def wKnown4:Array Value:=⟨[dptV wKnown3 0,dptV ⟨[vJ 999,vI 500,vI 1,vI 0,vI 200]⟩ 0,dptV wKnown2 0]⟩
def wKnown5:Array Value:=⟨[.func (.func 135) ⟨[]⟩ ⟨[dptV wKnown2 0]⟩,.func (.func 136) ⟨[]⟩ wKnown4,.func (.func 137) ⟨[]⟩ wKnown4]⟩
def wKnown6:Array Value:=⟨[vI 0,vI 999,vI 0,vI 999,vI 0,vI 1000,vI 1999,vI 0,vI 999,vI 0,vI 2000,vI 2999,vI 0,vI 999,vI 100,vI 1000,vI 1999,vI 1000,vI 1999,vI 0,vI 2000,vI 2999,vI 1000,vI 1999,vJ 0]⟩
def wKnown7:Array Value:=⟨[vI 0,vI 25,vI 35,vI 1,vI 45,vI 55,vI 3,vI 65,vI 75,vI 2,vI 100,vI 110,vJ 0,vI 155,vI 175]⟩
def wKnown13:Array Value:=⟨[vI 0,vI 200000,vI 600,vI 780,vJ 149,vI 80,vI 200000,vI 1000000,vI 640,vI 740,vJ 109,vI 240]⟩
def wKnown14:Array Value:=⟨[.agg ⟨[vI 184000000,vI 230000000]⟩,.agg ⟨[vJ 40999999,vI 40000000]⟩]⟩
def wKnown15:Array Value:=⟨[.agg ⟨[vI 0,vI 3066666,vI 4601000,vJ 819999,vI 801000,vI 5500,vI 6510]⟩,vI 0]⟩
def KKnown0:CF:=⟨38,[vI 0,vI 2999],.agg ⟨[vI 0,vI 2999]⟩⟩
theorem kKnown0:KKnown0.Ok Try.prog:=CF.of2 noNG mixed (l:=[]) .nil 3000 (by kernel_rfl)
def KKnown1:CF:=⟨38,[vI 0,vI 1999],.agg ⟨[vI 0,vI 1999]⟩⟩
theorem kKnown1:KKnown1.Ok Try.prog:=CF.of2 noNG mixed (l:=[]) .nil 3000 (by kernel_rfl)
def KKnown2:CF:=⟨23,[vI 0,vI 2999,vI 0,vI 1999],.agg ⟨[vI 0,vI 2999,vI 0,vI 1999]⟩⟩
theorem kKnown2:KKnown2.Ok Try.prog:=CF.of2 noNG mixed (l:=[KKnown0,KKnown1]) (.cons kKnown0 (.cons kKnown1 .nil)) 3000 (by kernel_rfl)
def KKnown3:CF:=⟨38,[vI 2000,vI 5000],.agg ⟨[vI 2000,vI 5000]⟩⟩
theorem kKnown3:KKnown3.Ok Try.prog:=CF.of2 noNG mixed (l:=[]) .nil 3000 (by kernel_rfl)
def KKnown4:CF:=⟨38,[vI 0,vI 999],.agg ⟨[vI 0,vI 999]⟩⟩
theorem kKnown4:KKnown4.Ok Try.prog:=CF.of2 noNG mixed (l:=[]) .nil 3000 (by kernel_rfl)
def KKnown5:CF:=⟨23,[vI 2000,vI 5000,vI 0,vI 999],.agg ⟨[vI 2000,vI 5000,vI 0,vI 999]⟩⟩
theorem kKnown5:KKnown5.Ok Try.prog:=CF.of2 noNG mixed (l:=[KKnown3,KKnown4]) (.cons kKnown3 (.cons kKnown4 .nil)) 3000 (by kernel_rfl)
def KKnown6:CF:=⟨38,[vI 2500,vI 2600],.agg ⟨[vI 2500,vI 2600]⟩⟩
theorem kKnown6:KKnown6.Ok Try.prog:=CF.of2 noNG mixed (l:=[]) .nil 3000 (by kernel_rfl)
def KKnown7:CF:=⟨38,[vI 1500,vI 1600],.agg ⟨[vI 1500,vI 1600]⟩⟩
theorem kKnown7:KKnown7.Ok Try.prog:=CF.of2 noNG mixed (l:=[]) .nil 3000 (by kernel_rfl)
def KKnown8:CF:=⟨23,[vI 2500,vI 2600,vI 1500,vI 1600],.agg ⟨[vI 2500,vI 2600,vI 1500,vI 1600]⟩⟩
theorem kKnown8:KKnown8.Ok Try.prog:=CF.of2 noNG mixed (l:=[KKnown6,KKnown7]) (.cons kKnown6 (.cons kKnown7 .nil)) 3000 (by kernel_rfl)
def KKnown9:CF:=⟨20,[],.agg wKnown1⟩
theorem kKnown9:KKnown9.Ok Try.prog:=CF.of2 noNG mixed (l:=[KKnown8,KKnown2,KKnown5]) (.cons kKnown8 (.cons kKnown2 (.cons kKnown5 .nil))) 3000 (by kernel_rfl)
def KKnown10:CF:=⟨41,[.agg ⟨[vI 0,vI 2999]⟩,vJ 99999999,vI 100000000],vT⟩
theorem kKnown10:KKnown10.Ok Try.prog:=CF.of2 noNG mixed (l:=[]) .nil 3000 (by kernel_rfl)
def KKnown11:CF:=⟨41,[.agg ⟨[vI 0,vI 1999]⟩,vJ 99999999,vI 100000000],vT⟩
theorem kKnown11:KKnown11.Ok Try.prog:=CF.of2 noNG mixed (l:=[]) .nil 3000 (by kernel_rfl)
def KKnown12:CF:=⟨81,[.agg ⟨[vI 0,vI 2999,vI 0,vI 1999]⟩],vT⟩
theorem kKnown12:KKnown12.Ok Try.prog:=CF.of2 noNG mixed (l:=[KKnown10,KKnown11]) (.cons kKnown10 (.cons kKnown11 .nil)) 3000 (by kernel_rfl)
def KKnown13:CF:=⟨40,[vI 1000,vI 1,vI 100000000],vT⟩
theorem kKnown13:KKnown13.Ok Try.prog:=CF.of2 noNG mixed (l:=[]) .nil 3000 (by kernel_rfl)
def KKnown14:CF:=⟨82,[.agg ⟨[vI 0,vI 2999]⟩,vI 1000],vI 3⟩
theorem kKnown14:KKnown14.Ok Try.prog:=CF.of2 noNG mixed (l:=[]) .nil 3000 (by kernel_rfl)
def KKnown15:CF:=⟨82,[.agg ⟨[vI 0,vI 1999]⟩,vI 1000],vI 2⟩
theorem kKnown15:KKnown15.Ok Try.prog:=CF.of2 noNG mixed (l:=[]) .nil 3000 (by kernel_rfl)
def KKnown16:CF:=⟨57,[.agg wKnown1],vI 0⟩
theorem kKnown16:KKnown16.Ok Try.prog:=CF.of2 noNG mixed (l:=[KKnown12,KKnown13,KKnown14,KKnown15]) (.cons kKnown12 (.cons kKnown13 (.cons kKnown14 (.cons kKnown15 .nil)))) 3000 (by kernel_rfl)
def KKnown17:CF:=⟨40,[vJ 999,vJ 99999999,vI 100000000],vT⟩
theorem kKnown17:KKnown17.Ok Try.prog:=CF.of2 noNG mixed (l:=[]) .nil 3000 (by kernel_rfl)
def KKnown18:CF:=⟨90,[vJ 999],vT⟩
theorem kKnown18:KKnown18.Ok Try.prog:=CF.of2 noNG mixed (l:=[KKnown17]) (.cons kKnown17 .nil) 3000 (by kernel_rfl)
def KKnown19:CF:=⟨40,[vI 500,vJ 99999999,vI 100000000],vT⟩
theorem kKnown19:KKnown19.Ok Try.prog:=CF.of2 noNG mixed (l:=[]) .nil 3000 (by kernel_rfl)
def KKnown20:CF:=⟨90,[vI 500],vT⟩
theorem kKnown20:KKnown20.Ok Try.prog:=CF.of2 noNG mixed (l:=[KKnown19]) (.cons kKnown19 .nil) 3000 (by kernel_rfl)
def KKnown21:CF:=⟨40,[vI 1,vJ 999,vI 1000],vT⟩
theorem kKnown21:KKnown21.Ok Try.prog:=CF.of2 noNG mixed (l:=[]) .nil 3000 (by kernel_rfl)
def KKnown22:CF:=⟨104,[vI 1],vT⟩
theorem kKnown22:KKnown22.Ok Try.prog:=CF.of2 noNG mixed (l:=[KKnown21]) (.cons kKnown21 .nil) 3000 (by kernel_rfl)
def KKnown23:CF:=⟨40,[vI 0,vJ 999,vI 1000],vT⟩
theorem kKnown23:KKnown23.Ok Try.prog:=CF.of2 noNG mixed (l:=[]) .nil 3000 (by kernel_rfl)
def KKnown24:CF:=⟨104,[vI 0],vT⟩
theorem kKnown24:KKnown24.Ok Try.prog:=CF.of2 noNG mixed (l:=[KKnown23]) (.cons kKnown23 .nil) 3000 (by kernel_rfl)
def KKnown25:CF:=⟨40,[vI 200,vI 0,vI 2000],vT⟩
theorem kKnown25:KKnown25.Ok Try.prog:=CF.of2 noNG mixed (l:=[]) .nil 3000 (by kernel_rfl)
def KKnown26:CF:=⟨83,[.agg ⟨[vJ 999,vI 500,vI 1,vI 0,vI 200]⟩],vI 0⟩
theorem kKnown26:KKnown26.Ok Try.prog:=CF.of2 noNG mixed (l:=[KKnown18,KKnown20,KKnown22,KKnown24,KKnown25]) (.cons kKnown18 (.cons kKnown20 (.cons kKnown22 (.cons kKnown24 (.cons kKnown25 .nil))))) 3000 (by kernel_rfl)
def KKnown27:CF:=⟨58,[lstV ⟨[vJ 999,vI 500,vI 1,vI 0,vI 200]⟩ 0 1 5],.tuple ⟨[vI 0,vI 0]⟩⟩
theorem kKnown27:KKnown27.Ok Try.prog:=CF.of2 noNG mixed (l:=[KKnown26]) (.cons kKnown26 .nil) 3000 (by kernel_rfl)
def KKnown28:CF:=⟨124,[.int .u8 (.ofNat 102)],vT⟩
theorem kKnown28:KKnown28.Ok Try.prog:=CF.of2 noNG mixed (l:=[]) .nil 3000 (by kernel_rfl)
def KKnown29:CF:=⟨124,[.int .u8 (.ofNat 97)],vT⟩
theorem kKnown29:KKnown29.Ok Try.prog:=CF.of2 noNG mixed (l:=[]) .nil 3000 (by kernel_rfl)
def KKnown30:CF:=⟨124,[.int .u8 (.ofNat 114)],vT⟩
theorem kKnown30:KKnown30.Ok Try.prog:=CF.of2 noNG mixed (l:=[]) .nil 3000 (by kernel_rfl)
def KKnown31:CF:=⟨124,[.int .u8 (.ofNat 109)],vT⟩
theorem kKnown31:KKnown31.Ok Try.prog:=CF.of2 noNG mixed (l:=[]) .nil 3000 (by kernel_rfl)
def KKnown32:CF:=⟨105,[.string ⟨⟨[102,97,114,109]⟩⟩],vT⟩
theorem kKnown32:KKnown32.Ok Try.prog:=CF.of2 noNG mixed (l:=[KKnown28,KKnown29,KKnown30,KKnown31]) (.cons kKnown28 (.cons kKnown29 (.cons kKnown30 (.cons kKnown31 .nil)))) 3000 (by kernel_rfl)
def KKnown33:CF:=⟨41,[.agg ⟨[vI 2000,vI 5000]⟩,vJ 99999999,vI 100000000],vT⟩
theorem kKnown33:KKnown33.Ok Try.prog:=CF.of2 noNG mixed (l:=[]) .nil 3000 (by kernel_rfl)
def KKnown34:CF:=⟨41,[.agg ⟨[vI 0,vI 999]⟩,vJ 99999999,vI 100000000],vT⟩
theorem kKnown34:KKnown34.Ok Try.prog:=CF.of2 noNG mixed (l:=[]) .nil 3000 (by kernel_rfl)
def KKnown35:CF:=⟨81,[.agg ⟨[vI 2000,vI 5000,vI 0,vI 999]⟩],vT⟩
theorem kKnown35:KKnown35.Ok Try.prog:=CF.of2 noNG mixed (l:=[KKnown33,KKnown34]) (.cons kKnown33 (.cons kKnown34 .nil)) 3000 (by kernel_rfl)
def KKnown36:CF:=⟨40,[vI 100,vI 0,vI 100000],vT⟩
theorem kKnown36:KKnown36.Ok Try.prog:=CF.of2 noNG mixed (l:=[]) .nil 3000 (by kernel_rfl)
def KKnown37:CF:=⟨85,[vI 100],vT⟩
theorem kKnown37:KKnown37.Ok Try.prog:=CF.of2 noNG mixed (l:=[KKnown36]) (.cons kKnown36 .nil) 3000 (by kernel_rfl)
def KKnown38:CF:=⟨84,[.agg ⟨[.string ⟨⟨[102,97,114,109]⟩⟩,vI 2000,vI 5000,vI 0,vI 999,vI 100]⟩,lstV wKnown0 0 0 6],vI 0⟩
theorem kKnown38:KKnown38.Ok Try.prog:=CF.of2 noNG mixed (l:=[KKnown32,KKnown35,KKnown37]) (.cons kKnown32 (.cons kKnown35 (.cons kKnown37 .nil))) 3000 (by kernel_rfl)
def KKnown39:CF:=⟨124,[.int .u8 (.ofNat 108)],vT⟩
theorem kKnown39:KKnown39.Ok Try.prog:=CF.of2 noNG mixed (l:=[]) .nil 3000 (by kernel_rfl)
def KKnown40:CF:=⟨124,[.int .u8 (.ofNat 107)],vT⟩
theorem kKnown40:KKnown40.Ok Try.prog:=CF.of2 noNG mixed (l:=[]) .nil 3000 (by kernel_rfl)
def KKnown41:CF:=⟨124,[.int .u8 (.ofNat 101)],vT⟩
theorem kKnown41:KKnown41.Ok Try.prog:=CF.of2 noNG mixed (l:=[]) .nil 3000 (by kernel_rfl)
def KKnown42:CF:=⟨105,[.string ⟨⟨[108,97,107,101]⟩⟩],vT⟩
theorem kKnown42:KKnown42.Ok Try.prog:=CF.of2 noNG mixed (l:=[KKnown40,KKnown41,KKnown29,KKnown39]) (.cons kKnown40 (.cons kKnown41 (.cons kKnown29 (.cons kKnown39 .nil)))) 3000 (by kernel_rfl)
def KKnown43:CF:=⟨41,[.agg ⟨[vI 2500,vI 2600]⟩,vJ 99999999,vI 100000000],vT⟩
theorem kKnown43:KKnown43.Ok Try.prog:=CF.of2 noNG mixed (l:=[]) .nil 3000 (by kernel_rfl)
def KKnown44:CF:=⟨41,[.agg ⟨[vI 1500,vI 1600]⟩,vJ 99999999,vI 100000000],vT⟩
theorem kKnown44:KKnown44.Ok Try.prog:=CF.of2 noNG mixed (l:=[]) .nil 3000 (by kernel_rfl)
def KKnown45:CF:=⟨81,[.agg ⟨[vI 2500,vI 2600,vI 1500,vI 1600]⟩],vT⟩
theorem kKnown45:KKnown45.Ok Try.prog:=CF.of2 noNG mixed (l:=[KKnown43,KKnown44]) (.cons kKnown43 (.cons kKnown44 .nil)) 3000 (by kernel_rfl)
def KKnown46:CF:=⟨40,[vJ 0,vI 0,vI 100000],vF⟩
theorem kKnown46:KKnown46.Ok Try.prog:=CF.of2 noNG mixed (l:=[]) .nil 3000 (by kernel_rfl)
def KKnown47:CF:=⟨85,[vJ 0],vF⟩
theorem kKnown47:KKnown47.Ok Try.prog:=CF.of2 noNG mixed (l:=[KKnown46]) (.cons kKnown46 .nil) 3000 (by kernel_rfl)
def KKnown48:CF:=⟨84,[.agg ⟨[.string ⟨⟨[108,97,107,101]⟩⟩,vI 2500,vI 2600,vI 1500,vI 1600,vJ 0]⟩,lstV wKnown0 0 1 6],vI 0⟩
theorem kKnown48:KKnown48.Ok Try.prog:=CF.of2 noNG mixed (l:=[KKnown42,KKnown45,KKnown47]) (.cons kKnown42 (.cons kKnown45 (.cons kKnown47 .nil))) 3000 (by kernel_rfl)
def KKnown49:CF:=⟨59,[lstV wKnown0 0 2 6],.tuple ⟨[vI 0,vI 0]⟩⟩
theorem kKnown49:KKnown49.Ok Try.prog:=CF.of2 noNG mixed (l:=[KKnown48,KKnown38]) (.cons kKnown48 (.cons kKnown38 .nil)) 3000 (by kernel_rfl)
def KKnown50:CF:=⟨40,[vJ 1999,vJ 99999999,vI 100000000],vT⟩
theorem kKnown50:KKnown50.Ok Try.prog:=CF.of2 noNG mixed (l:=[]) .nil 3000 (by kernel_rfl)
def KKnown51:CF:=⟨90,[vJ 1999],vT⟩
theorem kKnown51:KKnown51.Ok Try.prog:=CF.of2 noNG mixed (l:=[KKnown50]) (.cons kKnown50 .nil) 3000 (by kernel_rfl)
def KKnown52:CF:=⟨67,[.agg ⟨[vJ 1999,vI 500]⟩],vT⟩
theorem kKnown52:KKnown52.Ok Try.prog:=CF.of2 noNG mixed (l:=[KKnown51,KKnown20]) (.cons kKnown51 (.cons kKnown20 .nil)) 3000 (by kernel_rfl)
def KKnown53:CF:=⟨40,[vI 0,vI 0,vI 100000],vT⟩
theorem kKnown53:KKnown53.Ok Try.prog:=CF.of2 noNG mixed (l:=[]) .nil 3000 (by kernel_rfl)
def KKnown54:CF:=⟨85,[vI 0],vT⟩
theorem kKnown54:KKnown54.Ok Try.prog:=CF.of2 noNG mixed (l:=[KKnown53]) (.cons kKnown53 .nil) 3000 (by kernel_rfl)
def KKnown55:CF:=⟨40,[vI 100,vI 1,vI 1000000],vT⟩
theorem kKnown55:KKnown55.Ok Try.prog:=CF.of2 noNG mixed (l:=[]) .nil 3000 (by kernel_rfl)
def KKnown56:CF:=⟨40,[vI 200,vI 1,vI 100000],vT⟩
theorem kKnown56:KKnown56.Ok Try.prog:=CF.of2 noNG mixed (l:=[]) .nil 3000 (by kernel_rfl)
def KKnown57:CF:=⟨40,[vI 10,vI 1,vI 6000],vT⟩
theorem kKnown57:KKnown57.Ok Try.prog:=CF.of2 noNG mixed (l:=[]) .nil 3000 (by kernel_rfl)
def KKnown58:CF:=⟨40,[vI 20,vI 0,vI 6000],vT⟩
theorem kKnown58:KKnown58.Ok Try.prog:=CF.of2 noNG mixed (l:=[]) .nil 3000 (by kernel_rfl)
def KKnown59:CF:=⟨60,[.agg wKnown1],vT⟩
theorem kKnown59:KKnown59.Ok Try.prog:=CF.of2 noNG mixed (l:=[KKnown52,KKnown54,KKnown55,KKnown56,KKnown57,KKnown58]) (.cons kKnown52 (.cons kKnown54 (.cons kKnown55 (.cons kKnown56 (.cons kKnown57 (.cons kKnown58 .nil)))))) 3000 (by kernel_rfl)
def KKnown60:CF:=⟨18,[.agg wKnown1],.tuple ⟨[vI 0,vI 0,vI 0]⟩⟩
theorem kKnown60:KKnown60.Ok Try.prog:=CF.of2 noNG mixed (l:=[KKnown16,KKnown49,KKnown27,KKnown59]) (.cons kKnown16 (.cons kKnown49 (.cons kKnown27 (.cons kKnown59 .nil)))) 3000 (by kernel_rfl)
def KKnown61:CF:=⟨87,[.agg ⟨[vI 0,vI 2999]⟩,vI 1000,vI 0],.agg ⟨[vI 0,vI 999]⟩⟩
theorem kKnown61:KKnown61.Ok Try.prog:=CF.of2 noNG mixed (l:=[]) .nil 3000 (by kernel_rfl)
def KKnown62:CF:=⟨87,[.agg ⟨[vI 0,vI 1999]⟩,vI 1000,vI 0],.agg ⟨[vI 0,vI 999]⟩⟩
theorem kKnown62:KKnown62.Ok Try.prog:=CF.of2 noNG mixed (l:=[]) .nil 3000 (by kernel_rfl)
def KKnown63:CF:=⟨127,[.agg ⟨[vJ 999,vI 500,vI 1,vI 0,vI 200]⟩],.agg wKnown5⟩
theorem kKnown63:KKnown63.Ok Try.prog:=CF.of2 noNG mixed (l:=[]) .nil 3000 (by kernel_rfl)
def KKnown64:CF:=⟨138,[.agg ⟨[vI 0,vI 999,vI 0,vI 999]⟩],.func (.func 140) ⟨[]⟩ ⟨[dptV ⟨[vI 0,vI 999,vI 0,vI 999]⟩ 0]⟩⟩
theorem kKnown64:KKnown64.Ok Try.prog:=CF.of2 noNG mixed (l:=[]) .nil 3000 (by kernel_rfl)
def KKnown65:CF:=⟨133,[.agg ⟨[vI 0,vI 0]⟩,dptV ⟨[vJ 999,vI 500,vI 1,vI 0,vI 200]⟩ 0],vI 1000⟩
theorem kKnown65:KKnown65.Ok Try.prog:=CF.of2 noNG mixed (l:=[]) .nil 3000 (by kernel_rfl)
def KKnown66:CF:=⟨135,[.agg ⟨[vI 0,vI 0]⟩,dptV wKnown2 0],vT⟩
theorem kKnown66:KKnown66.Ok Try.prog:=CF.of2 noNG mixed (l:=[KKnown65]) (.cons kKnown65 .nil) 3000 (by kernel_rfl)
def KKnown67:CF:=⟨128,[.agg ⟨[vI 0,vI 999,vI 0,vI 999]⟩,.func (.func 135) ⟨[]⟩ ⟨[dptV wKnown2 0]⟩],vT⟩
theorem kKnown67:KKnown67.Ok Try.prog:=CF.of2 noNG mixed (l:=[KKnown64,KKnown66]) (.cons kKnown64 (.cons kKnown66 .nil)) 3000 (by kernel_rfl)
def KKnown68:CF:=⟨134,[.agg ⟨[vI 0,vI 0]⟩,dptV ⟨[vJ 999,vI 500,vI 1,vI 0,vI 200]⟩ 0],vJ 499⟩
theorem kKnown68:KKnown68.Ok Try.prog:=CF.of2 noNG mixed (l:=[]) .nil 3000 (by kernel_rfl)
def KKnown69:CF:=⟨136,[.agg ⟨[vI 0,vI 0]⟩,dptV wKnown3 0,dptV ⟨[vJ 999,vI 500,vI 1,vI 0,vI 200]⟩ 0,dptV wKnown2 0],vT⟩
theorem kKnown69:KKnown69.Ok Try.prog:=CF.of2 noNG mixed (l:=[KKnown65,KKnown68]) (.cons kKnown65 (.cons kKnown68 .nil)) 3000 (by kernel_rfl)
def KKnown70:CF:=⟨128,[.agg ⟨[vI 0,vI 999,vI 0,vI 999]⟩,.func (.func 136) ⟨[]⟩ wKnown4],vT⟩
theorem kKnown70:KKnown70.Ok Try.prog:=CF.of2 noNG mixed (l:=[KKnown64,KKnown69]) (.cons kKnown64 (.cons kKnown69 .nil)) 3000 (by kernel_rfl)
def KKnown71:CF:=⟨137,[.agg ⟨[vI 0,vI 0]⟩,dptV wKnown3 0,dptV ⟨[vJ 999,vI 500,vI 1,vI 0,vI 200]⟩ 0,dptV wKnown2 0],vF⟩
theorem kKnown71:KKnown71.Ok Try.prog:=CF.of2 noNG mixed (l:=[KKnown65,KKnown68]) (.cons kKnown65 (.cons kKnown68 .nil)) 3000 (by kernel_rfl)
def KKnown72:CF:=⟨134,[.agg ⟨[vI 999,vI 0]⟩,dptV ⟨[vJ 999,vI 500,vI 1,vI 0,vI 200]⟩ 0],vJ 499⟩
theorem kKnown72:KKnown72.Ok Try.prog:=CF.of2 noNG mixed (l:=[]) .nil 3000 (by kernel_rfl)
def KKnown73:CF:=⟨133,[.agg ⟨[vI 999,vI 0]⟩,dptV ⟨[vJ 999,vI 500,vI 1,vI 0,vI 200]⟩ 0],vI 1999⟩
theorem kKnown73:KKnown73.Ok Try.prog:=CF.of2 noNG mixed (l:=[]) .nil 3000 (by kernel_rfl)
def KKnown74:CF:=⟨137,[.agg ⟨[vI 999,vI 0]⟩,dptV wKnown3 0,dptV ⟨[vJ 999,vI 500,vI 1,vI 0,vI 200]⟩ 0,dptV wKnown2 0],vF⟩
theorem kKnown74:KKnown74.Ok Try.prog:=CF.of2 noNG mixed (l:=[KKnown72,KKnown73]) (.cons kKnown72 (.cons kKnown73 .nil)) 3000 (by kernel_rfl)
def KKnown75:CF:=⟨134,[.agg ⟨[vI 0,vI 999]⟩,dptV ⟨[vJ 999,vI 500,vI 1,vI 0,vI 200]⟩ 0],vI 499⟩
theorem kKnown75:KKnown75.Ok Try.prog:=CF.of2 noNG mixed (l:=[]) .nil 3000 (by kernel_rfl)
def KKnown76:CF:=⟨133,[.agg ⟨[vI 0,vI 999]⟩,dptV ⟨[vJ 999,vI 500,vI 1,vI 0,vI 200]⟩ 0],vI 1000⟩
theorem kKnown76:KKnown76.Ok Try.prog:=CF.of2 noNG mixed (l:=[]) .nil 3000 (by kernel_rfl)
def KKnown77:CF:=⟨137,[.agg ⟨[vI 0,vI 999]⟩,dptV wKnown3 0,dptV ⟨[vJ 999,vI 500,vI 1,vI 0,vI 200]⟩ 0,dptV wKnown2 0],vT⟩
theorem kKnown77:KKnown77.Ok Try.prog:=CF.of2 noNG mixed (l:=[KKnown75,KKnown76]) (.cons kKnown75 (.cons kKnown76 .nil)) 3000 (by kernel_rfl)
def KKnown78:CF:=⟨128,[.agg ⟨[vI 0,vI 999,vI 0,vI 999]⟩,.func (.func 137) ⟨[]⟩ wKnown4],vT⟩
theorem kKnown78:KKnown78.Ok Try.prog:=CF.of2 noNG mixed (l:=[KKnown64,KKnown74,KKnown77,KKnown71]) (.cons kKnown64 (.cons kKnown74 (.cons kKnown77 (.cons kKnown71 .nil)))) 3000 (by kernel_rfl)
def KKnown79:CF:=⟨108,[.agg ⟨[vJ 999,vI 500,vI 1,vI 0,vI 200]⟩,.agg ⟨[vI 0,vI 999,vI 0,vI 999]⟩],vF⟩
theorem kKnown79:KKnown79.Ok Try.prog:=CF.of2 noNG mixed (l:=[KKnown78,KKnown67,KKnown70,KKnown63]) (.cons kKnown78 (.cons kKnown67 (.cons kKnown70 (.cons kKnown63 .nil)))) 3000 (by kernel_rfl)
def KKnown80:CF:=⟨88,[.agg wKnown1,.agg ⟨[vI 0,vI 999,vI 0,vI 999]⟩],vF⟩
theorem kKnown80:KKnown80.Ok Try.prog:=CF.of2 noNG mixed (l:=[KKnown79]) (.cons kKnown79 .nil) 3000 (by kernel_rfl)
def KKnown81:CF:=⟨129,[.agg ⟨[vI 2000,vI 5000]⟩,.agg ⟨[vI 0,vI 999]⟩],vF⟩
theorem kKnown81:KKnown81.Ok Try.prog:=CF.of2 noNG mixed (l:=[]) .nil 3000 (by kernel_rfl)
def KKnown82:CF:=⟨109,[.agg ⟨[vI 2000,vI 5000,vI 0,vI 999]⟩,.agg ⟨[vI 0,vI 999,vI 0,vI 999]⟩],vF⟩
theorem kKnown82:KKnown82.Ok Try.prog:=CF.of2 noNG mixed (l:=[KKnown81]) (.cons kKnown81 .nil) 3000 (by kernel_rfl)
def KKnown83:CF:=⟨129,[.agg ⟨[vI 2500,vI 2600]⟩,.agg ⟨[vI 0,vI 999]⟩],vF⟩
theorem kKnown83:KKnown83.Ok Try.prog:=CF.of2 noNG mixed (l:=[]) .nil 3000 (by kernel_rfl)
def KKnown84:CF:=⟨109,[.agg ⟨[vI 2500,vI 2600,vI 1500,vI 1600]⟩,.agg ⟨[vI 0,vI 999,vI 0,vI 999]⟩],vF⟩
theorem kKnown84:KKnown84.Ok Try.prog:=CF.of2 noNG mixed (l:=[KKnown83]) (.cons kKnown83 .nil) 3000 (by kernel_rfl)
def KKnown85:CF:=⟨89,[.agg wKnown1,.agg ⟨[vI 0,vI 999,vI 0,vI 999]⟩],vI 0⟩
theorem kKnown85:KKnown85.Ok Try.prog:=CF.of2 noNG mixed (l:=[KKnown82,KKnown84]) (.cons kKnown82 (.cons kKnown84 .nil)) 3000 (by kernel_rfl)
def KKnown86:CF:=⟨87,[.agg ⟨[vI 0,vI 2999]⟩,vI 1000,vI 1],.agg ⟨[vI 1000,vI 1999]⟩⟩
theorem kKnown86:KKnown86.Ok Try.prog:=CF.of2 noNG mixed (l:=[]) .nil 3000 (by kernel_rfl)
def KKnown87:CF:=⟨138,[.agg ⟨[vI 1000,vI 1999,vI 0,vI 999]⟩],.func (.func 140) ⟨[]⟩ ⟨[dptV ⟨[vI 1000,vI 1999,vI 0,vI 999]⟩ 0]⟩⟩
theorem kKnown87:KKnown87.Ok Try.prog:=CF.of2 noNG mixed (l:=[]) .nil 3000 (by kernel_rfl)
def KKnown88:CF:=⟨133,[.agg ⟨[vI 1000,vI 0]⟩,dptV ⟨[vJ 999,vI 500,vI 1,vI 0,vI 200]⟩ 0],vI 2000⟩
theorem kKnown88:KKnown88.Ok Try.prog:=CF.of2 noNG mixed (l:=[]) .nil 3000 (by kernel_rfl)
def KKnown89:CF:=⟨135,[.agg ⟨[vI 1000,vI 0]⟩,dptV wKnown2 0],vT⟩
theorem kKnown89:KKnown89.Ok Try.prog:=CF.of2 noNG mixed (l:=[KKnown88]) (.cons kKnown88 .nil) 3000 (by kernel_rfl)
def KKnown90:CF:=⟨128,[.agg ⟨[vI 1000,vI 1999,vI 0,vI 999]⟩,.func (.func 135) ⟨[]⟩ ⟨[dptV wKnown2 0]⟩],vT⟩
theorem kKnown90:KKnown90.Ok Try.prog:=CF.of2 noNG mixed (l:=[KKnown89,KKnown87]) (.cons kKnown89 (.cons kKnown87 .nil)) 3000 (by kernel_rfl)
def KKnown91:CF:=⟨134,[.agg ⟨[vI 1000,vI 0]⟩,dptV ⟨[vJ 999,vI 500,vI 1,vI 0,vI 200]⟩ 0],vJ 499⟩
theorem kKnown91:KKnown91.Ok Try.prog:=CF.of2 noNG mixed (l:=[]) .nil 3000 (by kernel_rfl)
def KKnown92:CF:=⟨136,[.agg ⟨[vI 1000,vI 0]⟩,dptV wKnown3 0,dptV ⟨[vJ 999,vI 500,vI 1,vI 0,vI 200]⟩ 0,dptV wKnown2 0],vT⟩
theorem kKnown92:KKnown92.Ok Try.prog:=CF.of2 noNG mixed (l:=[KKnown88,KKnown91]) (.cons kKnown88 (.cons kKnown91 .nil)) 3000 (by kernel_rfl)
def KKnown93:CF:=⟨128,[.agg ⟨[vI 1000,vI 1999,vI 0,vI 999]⟩,.func (.func 136) ⟨[]⟩ wKnown4],vT⟩
theorem kKnown93:KKnown93.Ok Try.prog:=CF.of2 noNG mixed (l:=[KKnown92,KKnown87]) (.cons kKnown92 (.cons kKnown87 .nil)) 3000 (by kernel_rfl)
def KKnown94:CF:=⟨137,[.agg ⟨[vI 1000,vI 0]⟩,dptV wKnown3 0,dptV ⟨[vJ 999,vI 500,vI 1,vI 0,vI 200]⟩ 0,dptV wKnown2 0],vF⟩
theorem kKnown94:KKnown94.Ok Try.prog:=CF.of2 noNG mixed (l:=[KKnown88,KKnown91]) (.cons kKnown88 (.cons kKnown91 .nil)) 3000 (by kernel_rfl)
def KKnown95:CF:=⟨134,[.agg ⟨[vI 1999,vI 0]⟩,dptV ⟨[vJ 999,vI 500,vI 1,vI 0,vI 200]⟩ 0],vJ 499⟩
theorem kKnown95:KKnown95.Ok Try.prog:=CF.of2 noNG mixed (l:=[]) .nil 3000 (by kernel_rfl)
def KKnown96:CF:=⟨133,[.agg ⟨[vI 1999,vI 0]⟩,dptV ⟨[vJ 999,vI 500,vI 1,vI 0,vI 200]⟩ 0],vI 2999⟩
theorem kKnown96:KKnown96.Ok Try.prog:=CF.of2 noNG mixed (l:=[]) .nil 3000 (by kernel_rfl)
def KKnown97:CF:=⟨137,[.agg ⟨[vI 1999,vI 0]⟩,dptV wKnown3 0,dptV ⟨[vJ 999,vI 500,vI 1,vI 0,vI 200]⟩ 0,dptV wKnown2 0],vT⟩
theorem kKnown97:KKnown97.Ok Try.prog:=CF.of2 noNG mixed (l:=[KKnown96,KKnown95]) (.cons kKnown96 (.cons kKnown95 .nil)) 3000 (by kernel_rfl)
def KKnown98:CF:=⟨128,[.agg ⟨[vI 1000,vI 1999,vI 0,vI 999]⟩,.func (.func 137) ⟨[]⟩ wKnown4],vT⟩
theorem kKnown98:KKnown98.Ok Try.prog:=CF.of2 noNG mixed (l:=[KKnown97,KKnown94,KKnown87]) (.cons kKnown97 (.cons kKnown94 (.cons kKnown87 .nil))) 3000 (by kernel_rfl)
def KKnown99:CF:=⟨108,[.agg ⟨[vJ 999,vI 500,vI 1,vI 0,vI 200]⟩,.agg ⟨[vI 1000,vI 1999,vI 0,vI 999]⟩],vF⟩
theorem kKnown99:KKnown99.Ok Try.prog:=CF.of2 noNG mixed (l:=[KKnown90,KKnown93,KKnown98,KKnown63]) (.cons kKnown90 (.cons kKnown93 (.cons kKnown98 (.cons kKnown63 .nil)))) 3000 (by kernel_rfl)
def KKnown100:CF:=⟨88,[.agg wKnown1,.agg ⟨[vI 1000,vI 1999,vI 0,vI 999]⟩],vF⟩
theorem kKnown100:KKnown100.Ok Try.prog:=CF.of2 noNG mixed (l:=[KKnown99]) (.cons kKnown99 .nil) 3000 (by kernel_rfl)
def KKnown101:CF:=⟨129,[.agg ⟨[vI 2000,vI 5000]⟩,.agg ⟨[vI 1000,vI 1999]⟩],vF⟩
theorem kKnown101:KKnown101.Ok Try.prog:=CF.of2 noNG mixed (l:=[]) .nil 3000 (by kernel_rfl)
def KKnown102:CF:=⟨109,[.agg ⟨[vI 2000,vI 5000,vI 0,vI 999]⟩,.agg ⟨[vI 1000,vI 1999,vI 0,vI 999]⟩],vF⟩
theorem kKnown102:KKnown102.Ok Try.prog:=CF.of2 noNG mixed (l:=[KKnown101]) (.cons kKnown101 .nil) 3000 (by kernel_rfl)
def KKnown103:CF:=⟨129,[.agg ⟨[vI 2500,vI 2600]⟩,.agg ⟨[vI 1000,vI 1999]⟩],vF⟩
theorem kKnown103:KKnown103.Ok Try.prog:=CF.of2 noNG mixed (l:=[]) .nil 3000 (by kernel_rfl)
def KKnown104:CF:=⟨109,[.agg ⟨[vI 2500,vI 2600,vI 1500,vI 1600]⟩,.agg ⟨[vI 1000,vI 1999,vI 0,vI 999]⟩],vF⟩
theorem kKnown104:KKnown104.Ok Try.prog:=CF.of2 noNG mixed (l:=[KKnown103]) (.cons kKnown103 .nil) 3000 (by kernel_rfl)
def KKnown105:CF:=⟨89,[.agg wKnown1,.agg ⟨[vI 1000,vI 1999,vI 0,vI 999]⟩],vI 0⟩
theorem kKnown105:KKnown105.Ok Try.prog:=CF.of2 noNG mixed (l:=[KKnown104,KKnown102]) (.cons kKnown104 (.cons kKnown102 .nil)) 3000 (by kernel_rfl)
def KKnown106:CF:=⟨87,[.agg ⟨[vI 0,vI 2999]⟩,vI 1000,vI 2],.agg ⟨[vI 2000,vI 2999]⟩⟩
theorem kKnown106:KKnown106.Ok Try.prog:=CF.of2 noNG mixed (l:=[]) .nil 3000 (by kernel_rfl)
def KKnown107:CF:=⟨138,[.agg ⟨[vI 2000,vI 2999,vI 0,vI 999]⟩],.func (.func 140) ⟨[]⟩ ⟨[dptV ⟨[vI 2000,vI 2999,vI 0,vI 999]⟩ 0]⟩⟩
theorem kKnown107:KKnown107.Ok Try.prog:=CF.of2 noNG mixed (l:=[]) .nil 3000 (by kernel_rfl)
def KKnown108:CF:=⟨133,[.agg ⟨[vI 2000,vI 0]⟩,dptV ⟨[vJ 999,vI 500,vI 1,vI 0,vI 200]⟩ 0],vI 3000⟩
theorem kKnown108:KKnown108.Ok Try.prog:=CF.of2 noNG mixed (l:=[]) .nil 3000 (by kernel_rfl)
def KKnown109:CF:=⟨135,[.agg ⟨[vI 2000,vI 0]⟩,dptV wKnown2 0],vT⟩
theorem kKnown109:KKnown109.Ok Try.prog:=CF.of2 noNG mixed (l:=[KKnown108]) (.cons kKnown108 .nil) 3000 (by kernel_rfl)
def KKnown110:CF:=⟨128,[.agg ⟨[vI 2000,vI 2999,vI 0,vI 999]⟩,.func (.func 135) ⟨[]⟩ ⟨[dptV wKnown2 0]⟩],vT⟩
theorem kKnown110:KKnown110.Ok Try.prog:=CF.of2 noNG mixed (l:=[KKnown107,KKnown109]) (.cons kKnown107 (.cons kKnown109 .nil)) 3000 (by kernel_rfl)
def KKnown111:CF:=⟨134,[.agg ⟨[vI 2000,vI 0]⟩,dptV ⟨[vJ 999,vI 500,vI 1,vI 0,vI 200]⟩ 0],vJ 499⟩
theorem kKnown111:KKnown111.Ok Try.prog:=CF.of2 noNG mixed (l:=[]) .nil 3000 (by kernel_rfl)
def KKnown112:CF:=⟨136,[.agg ⟨[vI 2000,vI 0]⟩,dptV wKnown3 0,dptV ⟨[vJ 999,vI 500,vI 1,vI 0,vI 200]⟩ 0,dptV wKnown2 0],vT⟩
theorem kKnown112:KKnown112.Ok Try.prog:=CF.of2 noNG mixed (l:=[KKnown108,KKnown111]) (.cons kKnown108 (.cons kKnown111 .nil)) 3000 (by kernel_rfl)
def KKnown113:CF:=⟨128,[.agg ⟨[vI 2000,vI 2999,vI 0,vI 999]⟩,.func (.func 136) ⟨[]⟩ wKnown4],vT⟩
theorem kKnown113:KKnown113.Ok Try.prog:=CF.of2 noNG mixed (l:=[KKnown112,KKnown107]) (.cons kKnown112 (.cons kKnown107 .nil)) 3000 (by kernel_rfl)
def KKnown114:CF:=⟨137,[.agg ⟨[vI 2000,vI 0]⟩,dptV wKnown3 0,dptV ⟨[vJ 999,vI 500,vI 1,vI 0,vI 200]⟩ 0,dptV wKnown2 0],vT⟩
theorem kKnown114:KKnown114.Ok Try.prog:=CF.of2 noNG mixed (l:=[KKnown108,KKnown111]) (.cons kKnown108 (.cons kKnown111 .nil)) 3000 (by kernel_rfl)
def KKnown115:CF:=⟨128,[.agg ⟨[vI 2000,vI 2999,vI 0,vI 999]⟩,.func (.func 137) ⟨[]⟩ wKnown4],vT⟩
theorem kKnown115:KKnown115.Ok Try.prog:=CF.of2 noNG mixed (l:=[KKnown114,KKnown107]) (.cons kKnown114 (.cons kKnown107 .nil)) 3000 (by kernel_rfl)
def KKnown116:CF:=⟨108,[.agg ⟨[vJ 999,vI 500,vI 1,vI 0,vI 200]⟩,.agg ⟨[vI 2000,vI 2999,vI 0,vI 999]⟩],vF⟩
theorem kKnown116:KKnown116.Ok Try.prog:=CF.of2 noNG mixed (l:=[KKnown113,KKnown115,KKnown110,KKnown63]) (.cons kKnown113 (.cons kKnown115 (.cons kKnown110 (.cons kKnown63 .nil)))) 3000 (by kernel_rfl)
def KKnown117:CF:=⟨88,[.agg wKnown1,.agg ⟨[vI 2000,vI 2999,vI 0,vI 999]⟩],vF⟩
theorem kKnown117:KKnown117.Ok Try.prog:=CF.of2 noNG mixed (l:=[KKnown116]) (.cons kKnown116 .nil) 3000 (by kernel_rfl)
def KKnown118:CF:=⟨129,[.agg ⟨[vI 2000,vI 5000]⟩,.agg ⟨[vI 2000,vI 2999]⟩],vT⟩
theorem kKnown118:KKnown118.Ok Try.prog:=CF.of2 noNG mixed (l:=[]) .nil 3000 (by kernel_rfl)
def KKnown119:CF:=⟨129,[.agg ⟨[vI 0,vI 999]⟩,.agg ⟨[vI 0,vI 999]⟩],vT⟩
theorem kKnown119:KKnown119.Ok Try.prog:=CF.of2 noNG mixed (l:=[]) .nil 3000 (by kernel_rfl)
def KKnown120:CF:=⟨109,[.agg ⟨[vI 2000,vI 5000,vI 0,vI 999]⟩,.agg ⟨[vI 2000,vI 2999,vI 0,vI 999]⟩],vT⟩
theorem kKnown120:KKnown120.Ok Try.prog:=CF.of2 noNG mixed (l:=[KKnown118,KKnown119]) (.cons kKnown118 (.cons kKnown119 .nil)) 3000 (by kernel_rfl)
def KKnown121:CF:=⟨129,[.agg ⟨[vI 2500,vI 2600]⟩,.agg ⟨[vI 2000,vI 2999]⟩],vT⟩
theorem kKnown121:KKnown121.Ok Try.prog:=CF.of2 noNG mixed (l:=[]) .nil 3000 (by kernel_rfl)
def KKnown122:CF:=⟨129,[.agg ⟨[vI 1500,vI 1600]⟩,.agg ⟨[vI 0,vI 999]⟩],vF⟩
theorem kKnown122:KKnown122.Ok Try.prog:=CF.of2 noNG mixed (l:=[]) .nil 3000 (by kernel_rfl)
def KKnown123:CF:=⟨109,[.agg ⟨[vI 2500,vI 2600,vI 1500,vI 1600]⟩,.agg ⟨[vI 2000,vI 2999,vI 0,vI 999]⟩],vF⟩
theorem kKnown123:KKnown123.Ok Try.prog:=CF.of2 noNG mixed (l:=[KKnown121,KKnown122]) (.cons kKnown121 (.cons kKnown122 .nil)) 3000 (by kernel_rfl)
def KKnown124:CF:=⟨89,[.agg wKnown1,.agg ⟨[vI 2000,vI 2999,vI 0,vI 999]⟩],vI 100⟩
theorem kKnown124:KKnown124.Ok Try.prog:=CF.of2 noNG mixed (l:=[KKnown120,KKnown123]) (.cons kKnown120 (.cons kKnown123 .nil)) 3000 (by kernel_rfl)
def KKnown125:CF:=⟨87,[.agg ⟨[vI 0,vI 1999]⟩,vI 1000,vI 1],.agg ⟨[vI 1000,vI 1999]⟩⟩
theorem kKnown125:KKnown125.Ok Try.prog:=CF.of2 noNG mixed (l:=[]) .nil 3000 (by kernel_rfl)
def KKnown126:CF:=⟨138,[.agg ⟨[vI 0,vI 999,vI 1000,vI 1999]⟩],.func (.func 140) ⟨[]⟩ ⟨[dptV ⟨[vI 0,vI 999,vI 1000,vI 1999]⟩ 0]⟩⟩
theorem kKnown126:KKnown126.Ok Try.prog:=CF.of2 noNG mixed (l:=[]) .nil 3000 (by kernel_rfl)
def KKnown127:CF:=⟨133,[.agg ⟨[vI 0,vI 1000]⟩,dptV ⟨[vJ 999,vI 500,vI 1,vI 0,vI 200]⟩ 0],vI 1000⟩
theorem kKnown127:KKnown127.Ok Try.prog:=CF.of2 noNG mixed (l:=[]) .nil 3000 (by kernel_rfl)
def KKnown128:CF:=⟨135,[.agg ⟨[vI 0,vI 1000]⟩,dptV wKnown2 0],vT⟩
theorem kKnown128:KKnown128.Ok Try.prog:=CF.of2 noNG mixed (l:=[KKnown127]) (.cons kKnown127 .nil) 3000 (by kernel_rfl)
def KKnown129:CF:=⟨128,[.agg ⟨[vI 0,vI 999,vI 1000,vI 1999]⟩,.func (.func 135) ⟨[]⟩ ⟨[dptV wKnown2 0]⟩],vT⟩
theorem kKnown129:KKnown129.Ok Try.prog:=CF.of2 noNG mixed (l:=[KKnown128,KKnown126]) (.cons kKnown128 (.cons kKnown126 .nil)) 3000 (by kernel_rfl)
def KKnown130:CF:=⟨134,[.agg ⟨[vI 0,vI 1000]⟩,dptV ⟨[vJ 999,vI 500,vI 1,vI 0,vI 200]⟩ 0],vI 500⟩
theorem kKnown130:KKnown130.Ok Try.prog:=CF.of2 noNG mixed (l:=[]) .nil 3000 (by kernel_rfl)
def KKnown131:CF:=⟨136,[.agg ⟨[vI 0,vI 1000]⟩,dptV wKnown3 0,dptV ⟨[vJ 999,vI 500,vI 1,vI 0,vI 200]⟩ 0,dptV wKnown2 0],vF⟩
theorem kKnown131:KKnown131.Ok Try.prog:=CF.of2 noNG mixed (l:=[KKnown130,KKnown127]) (.cons kKnown130 (.cons kKnown127 .nil)) 3000 (by kernel_rfl)
def KKnown132:CF:=⟨134,[.agg ⟨[vI 999,vI 1000]⟩,dptV ⟨[vJ 999,vI 500,vI 1,vI 0,vI 200]⟩ 0],vI 500⟩
theorem kKnown132:KKnown132.Ok Try.prog:=CF.of2 noNG mixed (l:=[]) .nil 3000 (by kernel_rfl)
def KKnown133:CF:=⟨133,[.agg ⟨[vI 999,vI 1000]⟩,dptV ⟨[vJ 999,vI 500,vI 1,vI 0,vI 200]⟩ 0],vI 1999⟩
theorem kKnown133:KKnown133.Ok Try.prog:=CF.of2 noNG mixed (l:=[]) .nil 3000 (by kernel_rfl)
def KKnown134:CF:=⟨136,[.agg ⟨[vI 999,vI 1000]⟩,dptV wKnown3 0,dptV ⟨[vJ 999,vI 500,vI 1,vI 0,vI 200]⟩ 0,dptV wKnown2 0],vF⟩
theorem kKnown134:KKnown134.Ok Try.prog:=CF.of2 noNG mixed (l:=[KKnown132,KKnown133]) (.cons kKnown132 (.cons kKnown133 .nil)) 3000 (by kernel_rfl)
def KKnown135:CF:=⟨134,[.agg ⟨[vI 0,vI 1999]⟩,dptV ⟨[vJ 999,vI 500,vI 1,vI 0,vI 200]⟩ 0],vI 1499⟩
theorem kKnown135:KKnown135.Ok Try.prog:=CF.of2 noNG mixed (l:=[]) .nil 3000 (by kernel_rfl)
def KKnown136:CF:=⟨133,[.agg ⟨[vI 0,vI 1999]⟩,dptV ⟨[vJ 999,vI 500,vI 1,vI 0,vI 200]⟩ 0],vI 1000⟩
theorem kKnown136:KKnown136.Ok Try.prog:=CF.of2 noNG mixed (l:=[]) .nil 3000 (by kernel_rfl)
def KKnown137:CF:=⟨136,[.agg ⟨[vI 0,vI 1999]⟩,dptV wKnown3 0,dptV ⟨[vJ 999,vI 500,vI 1,vI 0,vI 200]⟩ 0,dptV wKnown2 0],vF⟩
theorem kKnown137:KKnown137.Ok Try.prog:=CF.of2 noNG mixed (l:=[KKnown136,KKnown135]) (.cons kKnown136 (.cons kKnown135 .nil)) 3000 (by kernel_rfl)
def KKnown138:CF:=⟨134,[.agg ⟨[vI 999,vI 1999]⟩,dptV ⟨[vJ 999,vI 500,vI 1,vI 0,vI 200]⟩ 0],vI 1499⟩
theorem kKnown138:KKnown138.Ok Try.prog:=CF.of2 noNG mixed (l:=[]) .nil 3000 (by kernel_rfl)
def KKnown139:CF:=⟨133,[.agg ⟨[vI 999,vI 1999]⟩,dptV ⟨[vJ 999,vI 500,vI 1,vI 0,vI 200]⟩ 0],vI 1999⟩
theorem kKnown139:KKnown139.Ok Try.prog:=CF.of2 noNG mixed (l:=[]) .nil 3000 (by kernel_rfl)
def KKnown140:CF:=⟨136,[.agg ⟨[vI 999,vI 1999]⟩,dptV wKnown3 0,dptV ⟨[vJ 999,vI 500,vI 1,vI 0,vI 200]⟩ 0,dptV wKnown2 0],vF⟩
theorem kKnown140:KKnown140.Ok Try.prog:=CF.of2 noNG mixed (l:=[KKnown138,KKnown139]) (.cons kKnown138 (.cons kKnown139 .nil)) 3000 (by kernel_rfl)
def KKnown141:CF:=⟨128,[.agg ⟨[vI 0,vI 999,vI 1000,vI 1999]⟩,.func (.func 136) ⟨[]⟩ wKnown4],vF⟩
theorem kKnown141:KKnown141.Ok Try.prog:=CF.of2 noNG mixed (l:=[KKnown131,KKnown134,KKnown137,KKnown140,KKnown126]) (.cons kKnown131 (.cons kKnown134 (.cons kKnown137 (.cons kKnown140 (.cons kKnown126 .nil))))) 3000 (by kernel_rfl)
def KKnown142:CF:=⟨108,[.agg ⟨[vJ 999,vI 500,vI 1,vI 0,vI 200]⟩,.agg ⟨[vI 0,vI 999,vI 1000,vI 1999]⟩],vT⟩
theorem kKnown142:KKnown142.Ok Try.prog:=CF.of2 noNG mixed (l:=[KKnown129,KKnown141,KKnown63]) (.cons kKnown129 (.cons kKnown141 (.cons kKnown63 .nil))) 3000 (by kernel_rfl)
def KKnown143:CF:=⟨88,[.agg wKnown1,.agg ⟨[vI 0,vI 999,vI 1000,vI 1999]⟩],vT⟩
theorem kKnown143:KKnown143.Ok Try.prog:=CF.of2 noNG mixed (l:=[KKnown142]) (.cons kKnown142 .nil) 3000 (by kernel_rfl)
def KKnown144:CF:=⟨138,[.agg ⟨[vI 1000,vI 1999,vI 1000,vI 1999]⟩],.func (.func 140) ⟨[]⟩ ⟨[dptV ⟨[vI 1000,vI 1999,vI 1000,vI 1999]⟩ 0]⟩⟩
theorem kKnown144:KKnown144.Ok Try.prog:=CF.of2 noNG mixed (l:=[]) .nil 3000 (by kernel_rfl)
def KKnown145:CF:=⟨133,[.agg ⟨[vI 1000,vI 1000]⟩,dptV ⟨[vJ 999,vI 500,vI 1,vI 0,vI 200]⟩ 0],vI 2000⟩
theorem kKnown145:KKnown145.Ok Try.prog:=CF.of2 noNG mixed (l:=[]) .nil 3000 (by kernel_rfl)
def KKnown146:CF:=⟨135,[.agg ⟨[vI 1000,vI 1000]⟩,dptV wKnown2 0],vT⟩
theorem kKnown146:KKnown146.Ok Try.prog:=CF.of2 noNG mixed (l:=[KKnown145]) (.cons kKnown145 .nil) 3000 (by kernel_rfl)
def KKnown147:CF:=⟨128,[.agg ⟨[vI 1000,vI 1999,vI 1000,vI 1999]⟩,.func (.func 135) ⟨[]⟩ ⟨[dptV wKnown2 0]⟩],vT⟩
theorem kKnown147:KKnown147.Ok Try.prog:=CF.of2 noNG mixed (l:=[KKnown144,KKnown146]) (.cons kKnown144 (.cons kKnown146 .nil)) 3000 (by kernel_rfl)
def KKnown148:CF:=⟨134,[.agg ⟨[vI 1000,vI 1000]⟩,dptV ⟨[vJ 999,vI 500,vI 1,vI 0,vI 200]⟩ 0],vI 500⟩
theorem kKnown148:KKnown148.Ok Try.prog:=CF.of2 noNG mixed (l:=[]) .nil 3000 (by kernel_rfl)
def KKnown149:CF:=⟨136,[.agg ⟨[vI 1000,vI 1000]⟩,dptV wKnown3 0,dptV ⟨[vJ 999,vI 500,vI 1,vI 0,vI 200]⟩ 0,dptV wKnown2 0],vF⟩
theorem kKnown149:KKnown149.Ok Try.prog:=CF.of2 noNG mixed (l:=[KKnown145,KKnown148]) (.cons kKnown145 (.cons kKnown148 .nil)) 3000 (by kernel_rfl)
def KKnown150:CF:=⟨134,[.agg ⟨[vI 1999,vI 1000]⟩,dptV ⟨[vJ 999,vI 500,vI 1,vI 0,vI 200]⟩ 0],vI 500⟩
theorem kKnown150:KKnown150.Ok Try.prog:=CF.of2 noNG mixed (l:=[]) .nil 3000 (by kernel_rfl)
def KKnown151:CF:=⟨133,[.agg ⟨[vI 1999,vI 1000]⟩,dptV ⟨[vJ 999,vI 500,vI 1,vI 0,vI 200]⟩ 0],vI 2999⟩
theorem kKnown151:KKnown151.Ok Try.prog:=CF.of2 noNG mixed (l:=[]) .nil 3000 (by kernel_rfl)
def KKnown152:CF:=⟨136,[.agg ⟨[vI 1999,vI 1000]⟩,dptV wKnown3 0,dptV ⟨[vJ 999,vI 500,vI 1,vI 0,vI 200]⟩ 0,dptV wKnown2 0],vT⟩
theorem kKnown152:KKnown152.Ok Try.prog:=CF.of2 noNG mixed (l:=[KKnown150,KKnown151]) (.cons kKnown150 (.cons kKnown151 .nil)) 3000 (by kernel_rfl)
def KKnown153:CF:=⟨128,[.agg ⟨[vI 1000,vI 1999,vI 1000,vI 1999]⟩,.func (.func 136) ⟨[]⟩ wKnown4],vT⟩
theorem kKnown153:KKnown153.Ok Try.prog:=CF.of2 noNG mixed (l:=[KKnown144,KKnown152,KKnown149]) (.cons kKnown144 (.cons kKnown152 (.cons kKnown149 .nil))) 3000 (by kernel_rfl)
def KKnown154:CF:=⟨137,[.agg ⟨[vI 1000,vI 1000]⟩,dptV wKnown3 0,dptV ⟨[vJ 999,vI 500,vI 1,vI 0,vI 200]⟩ 0,dptV wKnown2 0],vT⟩
theorem kKnown154:KKnown154.Ok Try.prog:=CF.of2 noNG mixed (l:=[KKnown145,KKnown148]) (.cons kKnown145 (.cons kKnown148 .nil)) 3000 (by kernel_rfl)
def KKnown155:CF:=⟨128,[.agg ⟨[vI 1000,vI 1999,vI 1000,vI 1999]⟩,.func (.func 137) ⟨[]⟩ wKnown4],vT⟩
theorem kKnown155:KKnown155.Ok Try.prog:=CF.of2 noNG mixed (l:=[KKnown144,KKnown154]) (.cons kKnown144 (.cons kKnown154 .nil)) 3000 (by kernel_rfl)
def KKnown156:CF:=⟨108,[.agg ⟨[vJ 999,vI 500,vI 1,vI 0,vI 200]⟩,.agg ⟨[vI 1000,vI 1999,vI 1000,vI 1999]⟩],vF⟩
theorem kKnown156:KKnown156.Ok Try.prog:=CF.of2 noNG mixed (l:=[KKnown153,KKnown147,KKnown155,KKnown63]) (.cons kKnown153 (.cons kKnown147 (.cons kKnown155 (.cons kKnown63 .nil)))) 3000 (by kernel_rfl)
def KKnown157:CF:=⟨88,[.agg wKnown1,.agg ⟨[vI 1000,vI 1999,vI 1000,vI 1999]⟩],vF⟩
theorem kKnown157:KKnown157.Ok Try.prog:=CF.of2 noNG mixed (l:=[KKnown156]) (.cons kKnown156 .nil) 3000 (by kernel_rfl)
def KKnown158:CF:=⟨109,[.agg ⟨[vI 2000,vI 5000,vI 0,vI 999]⟩,.agg ⟨[vI 1000,vI 1999,vI 1000,vI 1999]⟩],vF⟩
theorem kKnown158:KKnown158.Ok Try.prog:=CF.of2 noNG mixed (l:=[KKnown101]) (.cons kKnown101 .nil) 3000 (by kernel_rfl)
def KKnown159:CF:=⟨109,[.agg ⟨[vI 2500,vI 2600,vI 1500,vI 1600]⟩,.agg ⟨[vI 1000,vI 1999,vI 1000,vI 1999]⟩],vF⟩
theorem kKnown159:KKnown159.Ok Try.prog:=CF.of2 noNG mixed (l:=[KKnown103]) (.cons kKnown103 .nil) 3000 (by kernel_rfl)
def KKnown160:CF:=⟨89,[.agg wKnown1,.agg ⟨[vI 1000,vI 1999,vI 1000,vI 1999]⟩],vI 0⟩
theorem kKnown160:KKnown160.Ok Try.prog:=CF.of2 noNG mixed (l:=[KKnown158,KKnown159]) (.cons kKnown158 (.cons kKnown159 .nil)) 3000 (by kernel_rfl)
def KKnown161:CF:=⟨138,[.agg ⟨[vI 2000,vI 2999,vI 1000,vI 1999]⟩],.func (.func 140) ⟨[]⟩ ⟨[dptV ⟨[vI 2000,vI 2999,vI 1000,vI 1999]⟩ 0]⟩⟩
theorem kKnown161:KKnown161.Ok Try.prog:=CF.of2 noNG mixed (l:=[]) .nil 3000 (by kernel_rfl)
def KKnown162:CF:=⟨133,[.agg ⟨[vI 2000,vI 1000]⟩,dptV ⟨[vJ 999,vI 500,vI 1,vI 0,vI 200]⟩ 0],vI 3000⟩
theorem kKnown162:KKnown162.Ok Try.prog:=CF.of2 noNG mixed (l:=[]) .nil 3000 (by kernel_rfl)
def KKnown163:CF:=⟨135,[.agg ⟨[vI 2000,vI 1000]⟩,dptV wKnown2 0],vT⟩
theorem kKnown163:KKnown163.Ok Try.prog:=CF.of2 noNG mixed (l:=[KKnown162]) (.cons kKnown162 .nil) 3000 (by kernel_rfl)
def KKnown164:CF:=⟨128,[.agg ⟨[vI 2000,vI 2999,vI 1000,vI 1999]⟩,.func (.func 135) ⟨[]⟩ ⟨[dptV wKnown2 0]⟩],vT⟩
theorem kKnown164:KKnown164.Ok Try.prog:=CF.of2 noNG mixed (l:=[KKnown161,KKnown163]) (.cons kKnown161 (.cons kKnown163 .nil)) 3000 (by kernel_rfl)
def KKnown165:CF:=⟨134,[.agg ⟨[vI 2000,vI 1000]⟩,dptV ⟨[vJ 999,vI 500,vI 1,vI 0,vI 200]⟩ 0],vI 500⟩
theorem kKnown165:KKnown165.Ok Try.prog:=CF.of2 noNG mixed (l:=[]) .nil 3000 (by kernel_rfl)
def KKnown166:CF:=⟨136,[.agg ⟨[vI 2000,vI 1000]⟩,dptV wKnown3 0,dptV ⟨[vJ 999,vI 500,vI 1,vI 0,vI 200]⟩ 0,dptV wKnown2 0],vT⟩
theorem kKnown166:KKnown166.Ok Try.prog:=CF.of2 noNG mixed (l:=[KKnown162,KKnown165]) (.cons kKnown162 (.cons kKnown165 .nil)) 3000 (by kernel_rfl)
def KKnown167:CF:=⟨128,[.agg ⟨[vI 2000,vI 2999,vI 1000,vI 1999]⟩,.func (.func 136) ⟨[]⟩ wKnown4],vT⟩
theorem kKnown167:KKnown167.Ok Try.prog:=CF.of2 noNG mixed (l:=[KKnown161,KKnown166]) (.cons kKnown161 (.cons kKnown166 .nil)) 3000 (by kernel_rfl)
def KKnown168:CF:=⟨137,[.agg ⟨[vI 2000,vI 1000]⟩,dptV wKnown3 0,dptV ⟨[vJ 999,vI 500,vI 1,vI 0,vI 200]⟩ 0,dptV wKnown2 0],vT⟩
theorem kKnown168:KKnown168.Ok Try.prog:=CF.of2 noNG mixed (l:=[KKnown162,KKnown165]) (.cons kKnown162 (.cons kKnown165 .nil)) 3000 (by kernel_rfl)
def KKnown169:CF:=⟨128,[.agg ⟨[vI 2000,vI 2999,vI 1000,vI 1999]⟩,.func (.func 137) ⟨[]⟩ wKnown4],vT⟩
theorem kKnown169:KKnown169.Ok Try.prog:=CF.of2 noNG mixed (l:=[KKnown168,KKnown161]) (.cons kKnown168 (.cons kKnown161 .nil)) 3000 (by kernel_rfl)
def KKnown170:CF:=⟨108,[.agg ⟨[vJ 999,vI 500,vI 1,vI 0,vI 200]⟩,.agg ⟨[vI 2000,vI 2999,vI 1000,vI 1999]⟩],vF⟩
theorem kKnown170:KKnown170.Ok Try.prog:=CF.of2 noNG mixed (l:=[KKnown167,KKnown169,KKnown164,KKnown63]) (.cons kKnown167 (.cons kKnown169 (.cons kKnown164 (.cons kKnown63 .nil)))) 3000 (by kernel_rfl)
def KKnown171:CF:=⟨88,[.agg wKnown1,.agg ⟨[vI 2000,vI 2999,vI 1000,vI 1999]⟩],vF⟩
theorem kKnown171:KKnown171.Ok Try.prog:=CF.of2 noNG mixed (l:=[KKnown170]) (.cons kKnown170 .nil) 3000 (by kernel_rfl)
def KKnown172:CF:=⟨129,[.agg ⟨[vI 0,vI 999]⟩,.agg ⟨[vI 1000,vI 1999]⟩],vF⟩
theorem kKnown172:KKnown172.Ok Try.prog:=CF.of2 noNG mixed (l:=[]) .nil 3000 (by kernel_rfl)
def KKnown173:CF:=⟨109,[.agg ⟨[vI 2000,vI 5000,vI 0,vI 999]⟩,.agg ⟨[vI 2000,vI 2999,vI 1000,vI 1999]⟩],vF⟩
theorem kKnown173:KKnown173.Ok Try.prog:=CF.of2 noNG mixed (l:=[KKnown172,KKnown118]) (.cons kKnown172 (.cons kKnown118 .nil)) 3000 (by kernel_rfl)
def KKnown174:CF:=⟨129,[.agg ⟨[vI 1500,vI 1600]⟩,.agg ⟨[vI 1000,vI 1999]⟩],vT⟩
theorem kKnown174:KKnown174.Ok Try.prog:=CF.of2 noNG mixed (l:=[]) .nil 3000 (by kernel_rfl)
def KKnown175:CF:=⟨109,[.agg ⟨[vI 2500,vI 2600,vI 1500,vI 1600]⟩,.agg ⟨[vI 2000,vI 2999,vI 1000,vI 1999]⟩],vT⟩
theorem kKnown175:KKnown175.Ok Try.prog:=CF.of2 noNG mixed (l:=[KKnown121,KKnown174]) (.cons kKnown121 (.cons kKnown174 .nil)) 3000 (by kernel_rfl)
def KKnown176:CF:=⟨89,[.agg wKnown1,.agg ⟨[vI 2000,vI 2999,vI 1000,vI 1999]⟩],vJ 0⟩
theorem kKnown176:KKnown176.Ok Try.prog:=CF.of2 noNG mixed (l:=[KKnown173,KKnown175]) (.cons kKnown173 (.cons kKnown175 .nil)) 3000 (by kernel_rfl)
def KKnown177:CF:=⟨66,[.agg wKnown1],lstV wKnown6 0 5 5⟩
theorem kKnown177:KKnown177.Ok Try.prog:=CF.of2 noNG mixed (l:=[KKnown125,KKnown62,KKnown106,KKnown14,KKnown86,KKnown61,KKnown160,KKnown100,KKnown105,KKnown171,KKnown15,KKnown80,KKnown143,KKnown176,KKnown85,KKnown117,KKnown157,KKnown124]) (.cons kKnown125 (.cons kKnown62 (.cons kKnown106 (.cons kKnown14 (.cons kKnown86 (.cons kKnown61 (.cons kKnown160 (.cons kKnown100 (.cons kKnown105 (.cons kKnown171 (.cons kKnown15 (.cons kKnown80 (.cons kKnown143 (.cons kKnown176 (.cons kKnown85 (.cons kKnown117 (.cons kKnown157 (.cons kKnown124 .nil)))))))))))))))))) 3000 (by kernel_rfl)
def KKnown178:CF:=⟨21,[.agg wKnown1],.tuple ⟨[lstV wKnown6 0 5 5,vI 0]⟩⟩
theorem kKnown178:KKnown178.Ok Try.prog:=CF.of2 noNG mixed (l:=[KKnown177,KKnown60]) (.cons kKnown177 (.cons kKnown60 .nil)) 3000 (by kernel_rfl)
def KKnown199:CF:=⟨77,[vJ 2499,vI 100],vJ 24⟩
theorem kKnown199:KKnown199.Ok Try.prog:=CF.of2 noNG mixed (l:=[]) .nil 3000 (by kernel_rfl)
def KKnown200:CF:=⟨78,[vI 2500,vI 100],vI 25⟩
theorem kKnown200:KKnown200.Ok Try.prog:=CF.of2 noNG mixed (l:=[KKnown199]) (.cons kKnown199 .nil) 3000 (by kernel_rfl)
def KKnown201:CF:=⟨68,[.agg ⟨[vJ 1999,vI 500]⟩,.agg ⟨[vI 499,vI 499]⟩,vI 100],vI 25⟩
theorem kKnown201:KKnown201.Ok Try.prog:=CF.of2 noNG mixed (l:=[KKnown200]) (.cons kKnown200 .nil) 3000 (by kernel_rfl)
def KKnown206:CF:=⟨77,[vJ 3638,vI 100],vJ 36⟩
theorem kKnown206:KKnown206.Ok Try.prog:=CF.of2 noNG mixed (l:=[]) .nil 3000 (by kernel_rfl)
def KKnown207:CF:=⟨78,[vI 3639,vI 100],vI 37⟩
theorem kKnown207:KKnown207.Ok Try.prog:=CF.of2 noNG mixed (l:=[KKnown206]) (.cons kKnown206 .nil) 3000 (by kernel_rfl)
def KKnown208:CF:=⟨68,[.agg ⟨[vJ 1999,vI 500]⟩,.agg ⟨[vI 1499,vI 1499]⟩,vI 100],vI 37⟩
theorem kKnown208:KKnown208.Ok Try.prog:=CF.of2 noNG mixed (l:=[KKnown207]) (.cons kKnown207 .nil) 3000 (by kernel_rfl)
def KKnown210:CF:=⟨27,[],.agg ⟨[lstV wKnown7 0 5 3,lstV ⟨[vI 4,vI 1]⟩ 0 1 2]⟩⟩
theorem kKnown210:KKnown210.Ok Try.prog:=CF.of2 noNG mixed (l:=[]) .nil 3000 (by kernel_rfl)
def KKnown216:CF:=⟨77,[vI 999,vI 2],vI 499⟩
theorem kKnown216:KKnown216.Ok Try.prog:=CF.of2 noNG mixed (l:=[]) .nil 3000 (by kernel_rfl)
def KKnown217:CF:=⟨139,[.agg ⟨[vI 0,vI 999,vI 0,vI 999]⟩],.agg ⟨[vI 499,vI 499]⟩⟩
theorem kKnown217:KKnown217.Ok Try.prog:=CF.of2 noNG mixed (l:=[KKnown216]) (.cons kKnown216 .nil) 3000 (by kernel_rfl)
def KKnown218:CF:=⟨68,[.agg ⟨[vI 499,vI 499]⟩,.agg ⟨[vJ 1999,vI 500]⟩,vI 100],vI 25⟩
theorem kKnown218:KKnown218.Ok Try.prog:=CF.of2 noNG mixed (l:=[KKnown200]) (.cons kKnown200 .nil) 3000 (by kernel_rfl)
def KKnown224:CF:=⟨77,[vI 2999,vI 2],vI 1499⟩
theorem kKnown224:KKnown224.Ok Try.prog:=CF.of2 noNG mixed (l:=[]) .nil 3000 (by kernel_rfl)
def KKnown225:CF:=⟨139,[.agg ⟨[vI 1000,vI 1999,vI 0,vI 999]⟩],.agg ⟨[vI 1499,vI 499]⟩⟩
theorem kKnown225:KKnown225.Ok Try.prog:=CF.of2 noNG mixed (l:=[KKnown224,KKnown216]) (.cons kKnown224 (.cons kKnown216 .nil)) 3000 (by kernel_rfl)
def KKnown226:CF:=⟨77,[vJ 999,vI 100],vJ 9⟩
theorem kKnown226:KKnown226.Ok Try.prog:=CF.of2 noNG mixed (l:=[]) .nil 3000 (by kernel_rfl)
def KKnown227:CF:=⟨78,[vI 1000,vI 100],vI 10⟩
theorem kKnown227:KKnown227.Ok Try.prog:=CF.of2 noNG mixed (l:=[KKnown226]) (.cons kKnown226 .nil) 3000 (by kernel_rfl)
def KKnown228:CF:=⟨68,[.agg ⟨[vI 499,vI 499]⟩,.agg ⟨[vI 1499,vI 499]⟩,vI 100],vI 10⟩
theorem kKnown228:KKnown228.Ok Try.prog:=CF.of2 noNG mixed (l:=[KKnown227]) (.cons kKnown227 .nil) 3000 (by kernel_rfl)
def KKnown229:CF:=⟨77,[vJ 3499,vI 100],vJ 34⟩
theorem kKnown229:KKnown229.Ok Try.prog:=CF.of2 noNG mixed (l:=[]) .nil 3000 (by kernel_rfl)
def KKnown230:CF:=⟨78,[vI 3500,vI 100],vI 35⟩
theorem kKnown230:KKnown230.Ok Try.prog:=CF.of2 noNG mixed (l:=[KKnown229]) (.cons kKnown229 .nil) 3000 (by kernel_rfl)
def KKnown231:CF:=⟨68,[.agg ⟨[vI 1499,vI 499]⟩,.agg ⟨[vJ 1999,vI 500]⟩,vI 100],vI 35⟩
theorem kKnown231:KKnown231.Ok Try.prog:=CF.of2 noNG mixed (l:=[KKnown230]) (.cons kKnown230 .nil) 3000 (by kernel_rfl)
def KKnown237:CF:=⟨139,[.agg ⟨[vI 1000,vI 1999,vI 1000,vI 1999]⟩],.agg ⟨[vI 1499,vI 1499]⟩⟩
theorem kKnown237:KKnown237.Ok Try.prog:=CF.of2 noNG mixed (l:=[KKnown224]) (.cons kKnown224 .nil) 3000 (by kernel_rfl)
def KKnown238:CF:=⟨68,[.agg ⟨[vI 1499,vI 499]⟩,.agg ⟨[vI 1499,vI 1499]⟩,vI 100],vI 10⟩
theorem kKnown238:KKnown238.Ok Try.prog:=CF.of2 noNG mixed (l:=[KKnown227]) (.cons kKnown227 .nil) 3000 (by kernel_rfl)
def KKnown239:CF:=⟨68,[.agg ⟨[vI 1499,vI 1499]⟩,.agg ⟨[vJ 1999,vI 500]⟩,vI 100],vI 37⟩
theorem kKnown239:KKnown239.Ok Try.prog:=CF.of2 noNG mixed (l:=[KKnown207]) (.cons kKnown207 .nil) 3000 (by kernel_rfl)
def KKnown245:CF:=⟨77,[vI 4999,vI 2],vI 2499⟩
theorem kKnown245:KKnown245.Ok Try.prog:=CF.of2 noNG mixed (l:=[]) .nil 3000 (by kernel_rfl)
def KKnown246:CF:=⟨139,[.agg ⟨[vI 2000,vI 2999,vI 0,vI 999]⟩],.agg ⟨[vI 2499,vI 499]⟩⟩
theorem kKnown246:KKnown246.Ok Try.prog:=CF.of2 noNG mixed (l:=[KKnown216,KKnown245]) (.cons kKnown216 (.cons kKnown245 .nil)) 3000 (by kernel_rfl)
def KKnown247:CF:=⟨77,[vJ 1414,vI 100],vJ 14⟩
theorem kKnown247:KKnown247.Ok Try.prog:=CF.of2 noNG mixed (l:=[]) .nil 3000 (by kernel_rfl)
def KKnown248:CF:=⟨78,[vI 1415,vI 100],vI 15⟩
theorem kKnown248:KKnown248.Ok Try.prog:=CF.of2 noNG mixed (l:=[KKnown247]) (.cons kKnown247 .nil) 3000 (by kernel_rfl)
def KKnown249:CF:=⟨68,[.agg ⟨[vI 1499,vI 1499]⟩,.agg ⟨[vI 2499,vI 499]⟩,vI 100],vI 15⟩
theorem kKnown249:KKnown249.Ok Try.prog:=CF.of2 noNG mixed (l:=[KKnown248]) (.cons kKnown248 .nil) 3000 (by kernel_rfl)
def KKnown250:CF:=⟨77,[vJ 4499,vI 100],vJ 44⟩
theorem kKnown250:KKnown250.Ok Try.prog:=CF.of2 noNG mixed (l:=[]) .nil 3000 (by kernel_rfl)
def KKnown251:CF:=⟨78,[vI 4500,vI 100],vI 45⟩
theorem kKnown251:KKnown251.Ok Try.prog:=CF.of2 noNG mixed (l:=[KKnown250]) (.cons kKnown250 .nil) 3000 (by kernel_rfl)
def KKnown252:CF:=⟨68,[.agg ⟨[vI 2499,vI 499]⟩,.agg ⟨[vJ 1999,vI 500]⟩,vI 100],vI 45⟩
theorem kKnown252:KKnown252.Ok Try.prog:=CF.of2 noNG mixed (l:=[KKnown251]) (.cons kKnown251 .nil) 3000 (by kernel_rfl)
def KKnown278:CF:=⟨68,[.agg ⟨[vJ 1999,vI 500]⟩,.agg ⟨[vI 1499,vI 499]⟩,vI 100],vI 35⟩
theorem kKnown278:KKnown278.Ok Try.prog:=CF.of2 noNG mixed (l:=[KKnown230]) (.cons kKnown230 .nil) 3000 (by kernel_rfl)
def KKnown279:CF:=⟨95,[.agg ⟨[vI 1,vI 35,vI 45]⟩],vI 45⟩
theorem kKnown279:KKnown279.Ok Try.prog:=CF.of2 noNG mixed (l:=[]) .nil 3000 (by kernel_rfl)
def KKnown280:CF:=⟨95,[.agg ⟨[vI 0,vI 25,vI 35]⟩],vI 35⟩
theorem kKnown280:KKnown280.Ok Try.prog:=CF.of2 noNG mixed (l:=[]) .nil 3000 (by kernel_rfl)
def KKnown281:CF:=⟨68,[.agg ⟨[vJ 1999,vI 500]⟩,.agg ⟨[vI 2499,vI 499]⟩,vI 100],vI 45⟩
theorem kKnown281:KKnown281.Ok Try.prog:=CF.of2 noNG mixed (l:=[KKnown251]) (.cons kKnown251 .nil) 3000 (by kernel_rfl)
def KKnown282:CF:=⟨95,[.agg ⟨[vI 2,vI 100,vI 110]⟩],vI 110⟩
theorem kKnown282:KKnown282.Ok Try.prog:=CF.of2 noNG mixed (l:=[]) .nil 3000 (by kernel_rfl)
def KKnown283:CF:=⟨95,[.agg ⟨[vI 3,vI 37,vI 47]⟩],vI 47⟩
theorem kKnown283:KKnown283.Ok Try.prog:=CF.of2 noNG mixed (l:=[]) .nil 3000 (by kernel_rfl)
def KKnown284:CF:=⟨77,[vJ 1999,vI 100],vJ 19⟩
theorem kKnown284:KKnown284.Ok Try.prog:=CF.of2 noNG mixed (l:=[]) .nil 3000 (by kernel_rfl)
def KKnown285:CF:=⟨78,[vI 2000,vI 100],vI 20⟩
theorem kKnown285:KKnown285.Ok Try.prog:=CF.of2 noNG mixed (l:=[KKnown284]) (.cons kKnown284 .nil) 3000 (by kernel_rfl)
def KKnown286:CF:=⟨68,[.agg ⟨[vI 499,vI 499]⟩,.agg ⟨[vI 2499,vI 499]⟩,vI 100],vI 20⟩
theorem kKnown286:KKnown286.Ok Try.prog:=CF.of2 noNG mixed (l:=[KKnown285]) (.cons kKnown285 .nil) 3000 (by kernel_rfl)
def KKnown287:CF:=⟨68,[.agg ⟨[vI 499,vI 499]⟩,.agg ⟨[vI 1499,vI 1499]⟩,vI 100],vI 15⟩
theorem kKnown287:KKnown287.Ok Try.prog:=CF.of2 noNG mixed (l:=[KKnown248]) (.cons kKnown248 .nil) 3000 (by kernel_rfl)
def KKnown288:CF:=⟨95,[.agg ⟨[vI 3,vI 50,vI 60]⟩],vI 60⟩
theorem kKnown288:KKnown288.Ok Try.prog:=CF.of2 noNG mixed (l:=[]) .nil 3000 (by kernel_rfl)
def KKnown289:CF:=⟨95,[.agg ⟨[vI 1,vI 45,vI 55]⟩],vI 55⟩
theorem kKnown289:KKnown289.Ok Try.prog:=CF.of2 noNG mixed (l:=[]) .nil 3000 (by kernel_rfl)
def KKnown290:CF:=⟨68,[.agg ⟨[vI 1499,vI 499]⟩,.agg ⟨[vI 2499,vI 499]⟩,vI 100],vI 10⟩
theorem kKnown290:KKnown290.Ok Try.prog:=CF.of2 noNG mixed (l:=[KKnown227]) (.cons kKnown227 .nil) 3000 (by kernel_rfl)
def KKnown310:CF:=⟨38,[vI 0,vI 1000],.agg ⟨[vI 0,vI 1000]⟩⟩
theorem kKnown310:KKnown310.Ok Try.prog:=CF.of2 noNG mixed (l:=[]) .nil 3000 (by kernel_rfl)
def KKnown311:CF:=⟨23,[vI 0,vI 1000,vI 0,vI 1000],.agg ⟨[vI 0,vI 1000,vI 0,vI 1000]⟩⟩
theorem kKnown311:KKnown311.Ok Try.prog:=CF.of2 noNG mixed (l:=[KKnown310]) (.cons kKnown310 .nil) 3000 (by kernel_rfl)
def KKnown312:CF:=⟨38,[vI 500,vI 510],.agg ⟨[vI 500,vI 510]⟩⟩
theorem kKnown312:KKnown312.Ok Try.prog:=CF.of2 noNG mixed (l:=[]) .nil 3000 (by kernel_rfl)
def KKnown313:CF:=⟨54,[],.agg ⟨[vI 0,vI 0,vI 1000,vI 0,vI 1000,vI 500,vI 510]⟩⟩
theorem kKnown313:KKnown313.Ok Try.prog:=CF.of2 noNG mixed (l:=[KKnown312,KKnown311]) (.cons kKnown312 (.cons kKnown311 .nil)) 3000 (by kernel_rfl)
def KKnown314:CF:=⟨38,[vI 50,vI 60],.agg ⟨[vI 50,vI 60]⟩⟩
theorem kKnown314:KKnown314.Ok Try.prog:=CF.of2 noNG mixed (l:=[]) .nil 3000 (by kernel_rfl)
def KKnown315:CF:=⟨55,[],.agg ⟨[vI 300000,vI 50,vI 60]⟩⟩
theorem kKnown315:KKnown315.Ok Try.prog:=CF.of2 noNG mixed (l:=[KKnown314]) (.cons kKnown314 .nil) 3000 (by kernel_rfl)
def KKnown316:CF:=⟨56,[],lstV wKnown13 0 2 6⟩
theorem kKnown316:KKnown316.Ok Try.prog:=CF.of2 noNG mixed (l:=[]) .nil 3000 (by kernel_rfl)
def KKnown317:CF:=⟨40,[vI 300000,vI 1,vI 100000000],vT⟩
theorem kKnown317:KKnown317.Ok Try.prog:=CF.of2 noNG mixed (l:=[]) .nil 3000 (by kernel_rfl)
def KKnown318:CF:=⟨41,[.agg ⟨[vI 50,vI 60]⟩,vI 1,vI 10000],vT⟩
theorem kKnown318:KKnown318.Ok Try.prog:=CF.of2 noNG mixed (l:=[]) .nil 3000 (by kernel_rfl)
def KKnown319:CF:=⟨13,[.agg ⟨[vI 300000,vI 50,vI 60]⟩],vI 0⟩
theorem kKnown319:KKnown319.Ok Try.prog:=CF.of2 noNG mixed (l:=[KKnown317,KKnown318]) (.cons kKnown317 (.cons kKnown318 .nil)) 3000 (by kernel_rfl)
def KKnown320:CF:=⟨123,[vI 600],vT⟩
theorem kKnown320:KKnown320.Ok Try.prog:=CF.of2 noNG mixed (l:=[]) .nil 3000 (by kernel_rfl)
def KKnown321:CF:=⟨123,[vI 780],vT⟩
theorem kKnown321:KKnown321.Ok Try.prog:=CF.of2 noNG mixed (l:=[]) .nil 3000 (by kernel_rfl)
def KKnown322:CF:=⟨102,[.agg ⟨[vI 600,vI 780]⟩],vT⟩
theorem kKnown322:KKnown322.Ok Try.prog:=CF.of2 noNG mixed (l:=[KKnown320,KKnown321]) (.cons kKnown320 (.cons kKnown321 .nil)) 3000 (by kernel_rfl)
def KKnown323:CF:=⟨123,[vJ 149],vT⟩
theorem kKnown323:KKnown323.Ok Try.prog:=CF.of2 noNG mixed (l:=[]) .nil 3000 (by kernel_rfl)
def KKnown324:CF:=⟨123,[vI 80],vT⟩
theorem kKnown324:KKnown324.Ok Try.prog:=CF.of2 noNG mixed (l:=[]) .nil 3000 (by kernel_rfl)
def KKnown325:CF:=⟨102,[.agg ⟨[vJ 149,vI 80]⟩],vT⟩
theorem kKnown325:KKnown325.Ok Try.prog:=CF.of2 noNG mixed (l:=[KKnown323,KKnown324]) (.cons kKnown323 (.cons kKnown324 .nil)) 3000 (by kernel_rfl)
def KKnown326:CF:=⟨75,[.agg ⟨[vI 0,vI 200000,vI 600,vI 780,vJ 149,vI 80]⟩,vI 0],vI 0⟩
theorem kKnown326:KKnown326.Ok Try.prog:=CF.of2 noNG mixed (l:=[KKnown322,KKnown325]) (.cons kKnown322 (.cons kKnown325 .nil)) 3000 (by kernel_rfl)
def KKnown327:CF:=⟨123,[vI 640],vT⟩
theorem kKnown327:KKnown327.Ok Try.prog:=CF.of2 noNG mixed (l:=[]) .nil 3000 (by kernel_rfl)
def KKnown328:CF:=⟨123,[vI 740],vT⟩
theorem kKnown328:KKnown328.Ok Try.prog:=CF.of2 noNG mixed (l:=[]) .nil 3000 (by kernel_rfl)
def KKnown329:CF:=⟨102,[.agg ⟨[vI 640,vI 740]⟩],vT⟩
theorem kKnown329:KKnown329.Ok Try.prog:=CF.of2 noNG mixed (l:=[KKnown328,KKnown327]) (.cons kKnown328 (.cons kKnown327 .nil)) 3000 (by kernel_rfl)
def KKnown330:CF:=⟨123,[vJ 109],vT⟩
theorem kKnown330:KKnown330.Ok Try.prog:=CF.of2 noNG mixed (l:=[]) .nil 3000 (by kernel_rfl)
def KKnown331:CF:=⟨123,[vI 240],vT⟩
theorem kKnown331:KKnown331.Ok Try.prog:=CF.of2 noNG mixed (l:=[]) .nil 3000 (by kernel_rfl)
def KKnown332:CF:=⟨102,[.agg ⟨[vJ 109,vI 240]⟩],vT⟩
theorem kKnown332:KKnown332.Ok Try.prog:=CF.of2 noNG mixed (l:=[KKnown330,KKnown331]) (.cons kKnown330 (.cons kKnown331 .nil)) 3000 (by kernel_rfl)
def KKnown333:CF:=⟨75,[.agg ⟨[vI 200000,vI 1000000,vI 640,vI 740,vJ 109,vI 240]⟩,vI 200000],vI 0⟩
theorem kKnown333:KKnown333.Ok Try.prog:=CF.of2 noNG mixed (l:=[KKnown329,KKnown332]) (.cons kKnown329 (.cons kKnown332 .nil)) 3000 (by kernel_rfl)
def KKnown334:CF:=⟨43,[lstV wKnown13 0 2 6],.tuple ⟨[vI 0,vI 0]⟩⟩
theorem kKnown334:KKnown334.Ok Try.prog:=CF.of2 noNG mixed (l:=[KKnown333,KKnown326]) (.cons kKnown333 (.cons kKnown326 .nil)) 3000 (by kernel_rfl)
def KKnown335:CF:=⟨41,[.agg ⟨[vI 0,vI 1000]⟩,vJ 1999999999,vI 2000000000],vT⟩
theorem kKnown335:KKnown335.Ok Try.prog:=CF.of2 noNG mixed (l:=[]) .nil 3000 (by kernel_rfl)
def KKnown336:CF:=⟨41,[.agg ⟨[vI 500,vI 510]⟩,vI 0,vI 100000],vT⟩
theorem kKnown336:KKnown336.Ok Try.prog:=CF.of2 noNG mixed (l:=[]) .nil 3000 (by kernel_rfl)
def KKnown337:CF:=⟨44,[.agg ⟨[vI 0,vI 0,vI 1000,vI 0,vI 1000,vI 500,vI 510]⟩],vT⟩
theorem kKnown337:KKnown337.Ok Try.prog:=CF.of2 noNG mixed (l:=[KKnown335,KKnown336]) (.cons kKnown335 (.cons kKnown336 .nil)) 3000 (by kernel_rfl)
def KKnown338:CF:=⟨76,[.agg ⟨[vI 600,vI 780]⟩,vI 200000],.agg ⟨[vI 120000000,vI 156000000]⟩⟩
theorem kKnown338:KKnown338.Ok Try.prog:=CF.of2 noNG mixed (l:=[]) .nil 3000 (by kernel_rfl)
def KKnown339:CF:=⟨46,[.agg ⟨[vI 0,vI 0]⟩,.agg ⟨[vI 120000000,vI 156000000]⟩],.agg ⟨[vI 120000000,vI 156000000]⟩⟩
theorem kKnown339:KKnown339.Ok Try.prog:=CF.of2 noNG mixed (l:=[]) .nil 3000 (by kernel_rfl)
def KKnown340:CF:=⟨76,[.agg ⟨[vJ 149,vI 80]⟩,vI 200000],.agg ⟨[vJ 29999999,vI 16000000]⟩⟩
theorem kKnown340:KKnown340.Ok Try.prog:=CF.of2 noNG mixed (l:=[]) .nil 3000 (by kernel_rfl)
def KKnown341:CF:=⟨46,[.agg ⟨[vI 0,vI 0]⟩,.agg ⟨[vJ 29999999,vI 16000000]⟩],.agg ⟨[vJ 29999999,vI 16000000]⟩⟩
theorem kKnown341:KKnown341.Ok Try.prog:=CF.of2 noNG mixed (l:=[]) .nil 3000 (by kernel_rfl)
def KKnown342:CF:=⟨76,[.agg ⟨[vI 640,vI 740]⟩,vI 100000],.agg ⟨[vI 64000000,vI 74000000]⟩⟩
theorem kKnown342:KKnown342.Ok Try.prog:=CF.of2 noNG mixed (l:=[]) .nil 3000 (by kernel_rfl)
def KKnown343:CF:=⟨46,[.agg ⟨[vI 120000000,vI 156000000]⟩,.agg ⟨[vI 64000000,vI 74000000]⟩],.agg ⟨[vI 184000000,vI 230000000]⟩⟩
theorem kKnown343:KKnown343.Ok Try.prog:=CF.of2 noNG mixed (l:=[]) .nil 3000 (by kernel_rfl)
def KKnown344:CF:=⟨76,[.agg ⟨[vJ 109,vI 240]⟩,vI 100000],.agg ⟨[vJ 10999999,vI 24000000]⟩⟩
theorem kKnown344:KKnown344.Ok Try.prog:=CF.of2 noNG mixed (l:=[]) .nil 3000 (by kernel_rfl)
def KKnown345:CF:=⟨46,[.agg ⟨[vJ 29999999,vI 16000000]⟩,.agg ⟨[vJ 10999999,vI 24000000]⟩],.agg ⟨[vJ 40999999,vI 40000000]⟩⟩
theorem kKnown345:KKnown345.Ok Try.prog:=CF.of2 noNG mixed (l:=[]) .nil 3000 (by kernel_rfl)
def KKnown346:CF:=⟨45,[lstV wKnown13 0 2 6,vI 300000],.tuple wKnown14⟩
theorem kKnown346:KKnown346.Ok Try.prog:=CF.of2 noNG mixed (l:=[KKnown338,KKnown339,KKnown340,KKnown341,KKnown342,KKnown343,KKnown344,KKnown345]) (.cons kKnown338 (.cons kKnown339 (.cons kKnown340 (.cons kKnown341 (.cons kKnown342 (.cons kKnown343 (.cons kKnown344 (.cons kKnown345 .nil)))))))) 3000 (by kernel_rfl)
def KKnown347:CF:=⟨77,[vI 184000000,vI 50],vI 3680000⟩
theorem kKnown347:KKnown347.Ok Try.prog:=CF.of2 noNG mixed (l:=[]) .nil 3000 (by kernel_rfl)
def KKnown348:CF:=⟨77,[vI 184000000,vI 60],vI 3066666⟩
theorem kKnown348:KKnown348.Ok Try.prog:=CF.of2 noNG mixed (l:=[]) .nil 3000 (by kernel_rfl)
def KKnown349:CF:=⟨77,[vJ 229999999,vI 50],vJ 4599999⟩
theorem kKnown349:KKnown349.Ok Try.prog:=CF.of2 noNG mixed (l:=[]) .nil 3000 (by kernel_rfl)
def KKnown350:CF:=⟨78,[vI 230000000,vI 50],vI 4600000⟩
theorem kKnown350:KKnown350.Ok Try.prog:=CF.of2 noNG mixed (l:=[KKnown349]) (.cons kKnown349 .nil) 3000 (by kernel_rfl)
def KKnown351:CF:=⟨77,[vJ 229999999,vI 60],vJ 3833333⟩
theorem kKnown351:KKnown351.Ok Try.prog:=CF.of2 noNG mixed (l:=[]) .nil 3000 (by kernel_rfl)
def KKnown352:CF:=⟨78,[vI 230000000,vI 60],vI 3833334⟩
theorem kKnown352:KKnown352.Ok Try.prog:=CF.of2 noNG mixed (l:=[KKnown351]) (.cons kKnown351 .nil) 3000 (by kernel_rfl)
def KKnown353:CF:=⟨47,[.agg ⟨[vI 184000000,vI 230000000]⟩,.agg ⟨[vI 50,vI 60]⟩],.agg ⟨[vI 3066666,vI 4600000]⟩⟩
theorem kKnown353:KKnown353.Ok Try.prog:=CF.of2 noNG mixed (l:=[KKnown352,KKnown347,KKnown348,KKnown350]) (.cons kKnown352 (.cons kKnown347 (.cons kKnown348 (.cons kKnown350 .nil)))) 3000 (by kernel_rfl)
def KKnown354:CF:=⟨46,[.agg ⟨[vI 0,vI 1000]⟩,.agg ⟨[vI 3066666,vI 4600000]⟩],.agg ⟨[vI 3066666,vI 4601000]⟩⟩
theorem kKnown354:KKnown354.Ok Try.prog:=CF.of2 noNG mixed (l:=[]) .nil 3000 (by kernel_rfl)
def KKnown355:CF:=⟨77,[vJ 40999999,vI 50],vJ 819999⟩
theorem kKnown355:KKnown355.Ok Try.prog:=CF.of2 noNG mixed (l:=[]) .nil 3000 (by kernel_rfl)
def KKnown356:CF:=⟨77,[vJ 40999999,vI 60],vJ 683333⟩
theorem kKnown356:KKnown356.Ok Try.prog:=CF.of2 noNG mixed (l:=[]) .nil 3000 (by kernel_rfl)
def KKnown357:CF:=⟨77,[vJ 39999999,vI 50],vJ 799999⟩
theorem kKnown357:KKnown357.Ok Try.prog:=CF.of2 noNG mixed (l:=[]) .nil 3000 (by kernel_rfl)
def KKnown358:CF:=⟨78,[vI 40000000,vI 50],vI 800000⟩
theorem kKnown358:KKnown358.Ok Try.prog:=CF.of2 noNG mixed (l:=[KKnown357]) (.cons kKnown357 .nil) 3000 (by kernel_rfl)
def KKnown359:CF:=⟨77,[vJ 39999999,vI 60],vJ 666666⟩
theorem kKnown359:KKnown359.Ok Try.prog:=CF.of2 noNG mixed (l:=[]) .nil 3000 (by kernel_rfl)
def KKnown360:CF:=⟨78,[vI 40000000,vI 60],vI 666667⟩
theorem kKnown360:KKnown360.Ok Try.prog:=CF.of2 noNG mixed (l:=[KKnown359]) (.cons kKnown359 .nil) 3000 (by kernel_rfl)
def KKnown361:CF:=⟨47,[.agg ⟨[vJ 40999999,vI 40000000]⟩,.agg ⟨[vI 50,vI 60]⟩],.agg ⟨[vJ 819999,vI 800000]⟩⟩
theorem kKnown361:KKnown361.Ok Try.prog:=CF.of2 noNG mixed (l:=[KKnown360,KKnown355,KKnown356,KKnown358]) (.cons kKnown360 (.cons kKnown355 (.cons kKnown356 (.cons kKnown358 .nil)))) 3000 (by kernel_rfl)
def KKnown362:CF:=⟨46,[.agg ⟨[vI 0,vI 1000]⟩,.agg ⟨[vJ 819999,vI 800000]⟩],.agg ⟨[vJ 819999,vI 801000]⟩⟩
theorem kKnown362:KKnown362.Ok Try.prog:=CF.of2 noNG mixed (l:=[]) .nil 3000 (by kernel_rfl)
def KKnown363:CF:=⟨77,[vI 300000,vI 50],vI 6000⟩
theorem kKnown363:KKnown363.Ok Try.prog:=CF.of2 noNG mixed (l:=[]) .nil 3000 (by kernel_rfl)
def KKnown364:CF:=⟨77,[vI 300000,vI 60],vI 5000⟩
theorem kKnown364:KKnown364.Ok Try.prog:=CF.of2 noNG mixed (l:=[]) .nil 3000 (by kernel_rfl)
def KKnown365:CF:=⟨77,[vJ 299999,vI 50],vJ 5999⟩
theorem kKnown365:KKnown365.Ok Try.prog:=CF.of2 noNG mixed (l:=[]) .nil 3000 (by kernel_rfl)
def KKnown366:CF:=⟨78,[vI 300000,vI 50],vI 6000⟩
theorem kKnown366:KKnown366.Ok Try.prog:=CF.of2 noNG mixed (l:=[KKnown365]) (.cons kKnown365 .nil) 3000 (by kernel_rfl)
def KKnown367:CF:=⟨77,[vJ 299999,vI 60],vJ 4999⟩
theorem kKnown367:KKnown367.Ok Try.prog:=CF.of2 noNG mixed (l:=[]) .nil 3000 (by kernel_rfl)
def KKnown368:CF:=⟨78,[vI 300000,vI 60],vI 5000⟩
theorem kKnown368:KKnown368.Ok Try.prog:=CF.of2 noNG mixed (l:=[KKnown367]) (.cons kKnown367 .nil) 3000 (by kernel_rfl)
def KKnown369:CF:=⟨47,[.agg ⟨[vI 300000,vI 300000]⟩,.agg ⟨[vI 50,vI 60]⟩],.agg ⟨[vI 5000,vI 6000]⟩⟩
theorem kKnown369:KKnown369.Ok Try.prog:=CF.of2 noNG mixed (l:=[KKnown368,KKnown363,KKnown364,KKnown366]) (.cons kKnown368 (.cons kKnown363 (.cons kKnown364 (.cons kKnown366 .nil)))) 3000 (by kernel_rfl)
def KKnown370:CF:=⟨46,[.agg ⟨[vI 500,vI 510]⟩,.agg ⟨[vI 5000,vI 6000]⟩],.agg ⟨[vI 5500,vI 6510]⟩⟩
theorem kKnown370:KKnown370.Ok Try.prog:=CF.of2 noNG mixed (l:=[]) .nil 3000 (by kernel_rfl)
def KKnown371:CF:=⟨15,[.agg ⟨[vI 0,vI 0,vI 1000,vI 0,vI 1000,vI 500,vI 510]⟩,.agg ⟨[vI 300000,vI 50,vI 60]⟩,lstV wKnown13 0 2 6],.tuple wKnown15⟩
theorem kKnown371:KKnown371.Ok Try.prog:=CF.of2 noNG mixed (l:=[KKnown353,KKnown354,KKnown361,KKnown362,KKnown334,KKnown337,KKnown369,KKnown370,KKnown346,KKnown319]) (.cons kKnown353 (.cons kKnown354 (.cons kKnown361 (.cons kKnown362 (.cons kKnown334 (.cons kKnown337 (.cons kKnown369 (.cons kKnown370 (.cons kKnown346 (.cons kKnown319 .nil)))))))))) 3000 (by kernel_rfl)
def KKnown372:CF:=⟨95,[.agg ⟨[vI 3,vI 65,vI 75]⟩],vI 75⟩
theorem kKnown372:KKnown372.Ok Try.prog:=CF.of2 noNG mixed (l:=[]) .nil 3000 (by kernel_rfl)
def KKnown373:CF:=⟨28,[.agg wKnown1],.tuple ⟨[.agg ⟨[lstV wKnown7 0 5 3,lstV ⟨[vI 4,vI 1]⟩ 0 1 2]⟩,vI 0]⟩⟩
theorem kKnown373:KKnown373.Ok Try.prog:=CF.of2 noNG mixed (l:=[KKnown246,KKnown237,KKnown217,KKnown225,KKnown252,KKnown280,KKnown282,KKnown201,KKnown239,KKnown278,KKnown281,KKnown289,KKnown208,KKnown231,KKnown279,KKnown283,KKnown286,KKnown287,KKnown288,KKnown290,KKnown178,KKnown218,KKnown228,KKnown238,KKnown372,KKnown249]) (.cons kKnown246 (.cons kKnown237 (.cons kKnown217 (.cons kKnown225 (.cons kKnown252 (.cons kKnown280 (.cons kKnown282 (.cons kKnown201 (.cons kKnown239 (.cons kKnown278 (.cons kKnown281 (.cons kKnown289 (.cons kKnown208 (.cons kKnown231 (.cons kKnown279 (.cons kKnown283 (.cons kKnown286 (.cons kKnown287 (.cons kKnown288 (.cons kKnown290 (.cons kKnown178 (.cons kKnown218 (.cons kKnown228 (.cons kKnown238 (.cons kKnown372 (.cons kKnown249 .nil)))))))))))))))))))))))))) 3000 (by kernel_rfl)
end
end Go.Proofs.Ytoghoeebiddblaa
