/- Part 6 of the texts below the claim. Conditions: none. -/
import Derived.Test.YtkcahhbhfmdpmaaMg5
import Derived.Test.YtkcahhbhfmdpmaaMg4
set_option linter.unusedVariables false
set_option linter.unusedSimpArgs false
namespace Go.Gi
open Go.RowKit
noncomputable section
def AnyOk (P:Program)(os:Array Oper) (s s':St):Prop :=
 s.h.base≤s.h.bl.length→Pres s.h s'.h∧∀(K:Nat→Prop) (w0:World) (φ:Phi) (w:World) (a:Act) (F:Fence) (n:Nat) (rd:Option Nat) (Q:Exit→Act→World→Prop),
  Inv K w0 φ s.h.bl w→VRs φ s.t.toArray a.tmps→DRs φ s.d a.defers→FenceOk φ rd F→(∀x a w',CodeR K w0 φ .normal s' x a w'→Q x a w')→wpAnyIn F n P .any os Q os.size (Array.replicate os.size false) a { w with drawn:=w.drawn+1 }
theorem drawn_any {P:Program}{self:Self}(hN:NoNG P) (hs:SelfOk P self) {rd:Option Nat}{id:Nat}{os:Array Oper}{s:St}{o:Out}(h:drawn P self rd id os s=some o):∃s',o=.ex .normal s'∧AnyOk P os s s':=by
 unfold drawn at h
 split at h
 case isFalse=>cases h
 rename_i hp
 split at h
 case h_2=>cases h
 rename_i recs T h1 hr
 split at h
 case isFalse=>cases h
 rename_i hc;simp only[Option.some.injEq]at h;subst h;have p:=plan_of hp hr hc
 refine ⟨_,rfl,fun hb=>⟨(p.tr.pres hs hb).1,?_⟩⟩
 intro K w0 φ w a F n rd Q hI ht hd hF hQ
 have h0:∀j,(Array.replicate os.size false).getD j false=false:=fun j=>by
  simp only[Array.getD_eq_getD_getElem?,Array.getElem?_replicate]
  split<;>rfl
 refine p.run hN hs hb os.size _ (List.range os.size) φ a _ (by simp) ?_ ?_ (by simp) ?_ ?_ hd hF hQ
 ·intro j k hj;simp only[h0]at hj;cases hj
 ·intro i hi _;exact List.mem_range.2 hi
 ·rw[HD_none _ fun r _ _=>h0 r.i];exact hI.drew
 ·rw[TD_none _ fun r _=>h0 r.i];exact ht
theorem drawnF_any {P:Program}{self:Self}(hN:NoNG P) (hs:SelfOk P self) {rd:Option Nat}{id:Nat}{os:Array Oper}{s:St}{o:Out}(h:drawnF P self rd id os s=some o):∃s',o=.ex .normal s'∧AnyOk P os s s':=by
 unfold drawnF at h
 split at h
 case isFalse=>cases h
 rename_i hp
 split at h
 case h_2=>cases h
 rename_i recs T h1 hr
 split at h
 case isFalse=>cases h
 rename_i hc;simp only[Option.some.injEq]at h;subst h;simp only[Bool.and_eq_true]at hc;have p:=planF_of hp hr hc.1 hc.2.1
 have hdl:∀r∈recs,r.loud=true→isAlR r=true→∀t,r.o.dst=some t→t<s.t.length:=by
  intro r hr hl ha t ht;have:=hc.2.2;rw[List.all_eq_true]at this;have:=this r hr;rw[hl,ha,ht]at this
  simpa using this
 refine ⟨_,rfl,fun hb=>⟨(p.tr.pres hs hb).1,?_⟩⟩
 intro K w0 φ w a F n rd Q hI ht hd hF hQ
 have h0:∀j,(Array.replicate os.size false).getD j false=false:=fun j=>by
  simp only[Array.getD_eq_getD_getElem?,Array.getElem?_replicate]
  split<;>rfl
 have hnf:∀r,¬IsFl recs (fun j=>(Array.replicate os.size false).getD j false) (fun _=>false) r:=fun r hr=>by have:=hr.2.2.2.1;simp only[h0]at this;cases this
 have hI':=hI.drew
 refine p.run hN hs hb hdl os.size _ (List.range os.size) (fun _=>false) (fun _=>0) φ s.t a _ (by simp) ?_ (by simp) ?_ hd hF hQ
 ·intro i hi _;exact List.mem_range.2 hi
 ·refine ⟨fun i hi=>by (cases hi),fun r _ hD=>by (simp only[h0]at hD;cases hD),pw_all fun _ _ _ _ _ _ h=>by (cases h),fun j k hj=>by (simp only[h0]at hj;cases hj),rfl,fun t _=>?_,ht,?_,?_,fun r hr=>(hnf r hr).elim,fun r _ hr=>(hnf r hr).elim,fun r hr=>(hnf r hr).elim⟩
  ·rw[TD_none _ fun r _=>rfl]
  ·rw[HD_none _ fun r _ _=>rfl]
   refine hI'.rebase.weaken ?_
   rintro k (hk | ⟨r,hr,_⟩)
   ·exact hk
   ·exact (hnf r hr).elim
  ·exact ⟨hI'.keep,hI'.klt,hI'.size,hI'.os,hI'.tape,hI'.output⟩
theorem drawnX_any {P:Program}{self:Self}(hN:NoNG P) (hs:SelfOk P self) {rd:Option Nat}{id:Nat}{os:Array Oper}{s:St}{o:Out}(h:drawnX P self rd id os s=some o):∃s',o=.ex .normal s'∧AnyOk P os s s':=by
 unfold drawnX at h
 split at h
 ·exact drawnF_any hN hs h
 ·exact drawn_any hN hs h
theorem blt_lt {a b:Nat}(h:Nat.blt a b=true):a<b:=by rwa [Nat.blt_eq]at h
def depsAt (os:Array Oper)(i:Nat):List Nat:=((os[i]?).map depsOf).getD []
def depsAsc (os:Array Oper):Bool:=(List.range os.size).all fun i=>(depsAt os i).all fun d=>Nat.blt d i
def guardsIn (os:Array Oper)(m:Nat):Bool:=(List.range m).all fun i=>match (os[i]?).bind (·.guard) with
 | none=>true
 | some (j,_)=>Nat.blt j m
def ancs (os:Array Oper):Nat→List Nat→List Nat
 | 0,s=>s
 | f+1,s=>ancs os f (s++((s.flatMap (depsAt os)).filter fun d=>!s.contains d).eraseDups)
def waits (os:Array Oper)(m:Nat):Bool:=depsAsc os&&(guardsIn os m&&(List.range m).all fun j=>(ancs os m (depsAt os m)).contains j)
theorem dep_mem {os:Array Oper}{i:Nat}{o:Oper}(ho:os[i]?=some o) {d:Nat}:d∈depsAt os i↔∃e∈o.after,Region.binds .any e=true∧e.on=d:=by
 unfold depsAt depsOf;rw[ho];simp only[Option.map_some,Option.getD_some,List.mem_map,List.mem_filter,Array.mem_toList_iff,and_assoc]
def ShutL (os:Array Oper)(D:Nat→Prop):Prop:=∀i,D i→∀d∈depsAt os i,D d
theorem ancs_ok {os:Array Oper}{D:Nat→Prop}(hs:ShutL os D):∀(f:Nat) (s:List Nat),(∀i∈s,D i)→∀i∈ancs os f s,D i
 | 0,s,h=>h
 | f+1,s,h=>by
  refine ancs_ok hs f _ fun i hi=>?_
  rcases List.mem_append.1 hi with hi | hi
  ·exact h i hi
  ·rw[List.mem_eraseDups]at hi
   obtain ⟨hi,_⟩:=List.mem_filter.1 hi;obtain ⟨j,hj,hij⟩:=List.mem_flatMap.1 hi;exact hs j (h j hj) i hij
section
variable {P:Program}{F:Fence}{n:Nat}{Q:Exit→Act→World→Prop}
theorem upon_q {o:Oper}{a:Act}{K:Act→World→Prop} {Q':Exit→Act→World→Prop}(hq:∀c a w,Q' (.panic c) a w→Q (.panic c) a w) (hl:LetsOut Q'→LetsOut Q) {r:Result Next}(h:o.uponIn F n P a K Q' r):o.uponIn F n P a K Q r:=by
 cases r with
 | ok x w' =>
  cases x<;>simp only[Oper.uponIn]at h ⊢ <;>
   first
    | exact h
    | exact ⟨h.1,CallsIn.mono h.2 (fun e w'' he=>by cases e<;>first | exact he | exact hq _ _ _ he | exact hl he)⟩
    | exact ⟨h.1,RowsIn.mono h.2 (fun _ _ he=>he)⟩
    | exact ⟨h.1,RoundIn.mono h.2 (fun e w'' he=>by cases e<;>first | exact he | exact hq _ _ _ he | exact hl he)⟩
 | halt x w'=>cases x<;>simp only[Oper.uponIn]at h ⊢<;>first | exact h | exact hq _ _ _ h
theorem any_full {os:Array Oper}{a:Act}{w:World}:∀(fuel:Nat) (listed:Array Bool),(∀j,j<os.size→listed.getD j true=true)→Q .normal a w→wpAnyIn F n P .any os Q fuel listed a w:=by
 intro fuel listed hl hq
 have hr:Region.ready .any os listed=[]:=by
  rw[List.eq_nil_iff_forall_not_mem];intro i hi;rw[mem_ready]at hi;obtain ⟨h1,o,h2,_⟩:=hi
  rw[hl i (Array.getElem?_eq_some_iff.1 h2).1]at h1;cases h1
 cases fuel with
 | zero=>exact ⟨hr,hq⟩
 | succ fuel=>exact ⟨fun _=>hq,fun i hi=>by rw[hr]at hi;cases hi⟩
theorem getD_tf {l:Array Bool}{j:Nat}(h:j<l.size):l.getD j true=l.getD j false:=by
 simp only[Array.getD_eq_getD_getElem?,Array.getElem?_eq_getElem h,Option.getD_some]
def behind (F:Fence)(n:Nat)(P:Program)(os:Array Oper)(m:Nat)(Q:Exit→Act→World→Prop):Exit→Act→World→Prop
 | .normal,a,w=>wpOpsIn F n P os Q [m] a w
 | e,a,w=>Q e a w
theorem any_last {os:Array Oper}{m:Nat}(hsz:os.size=m+1) (hw:waits os m=true):∀(fuel:Nat) (listed:Array Bool) (a:Act) (w:World),listed.size=m+1→listed.getD m false=false →
  ShutL os (fun j=>listed.getD j false=true)→wpAnyIn F n P .any os.pop (behind F n P os m Q) fuel listed.pop a w→wpAnyIn F n P .any os Q (fuel+1) listed a w:=by
 simp only[waits,Bool.and_eq_true]at hw;obtain ⟨hasc,hgu,hanc⟩:=hw
 have hpop:∀j,j<m→os.pop[j]?=os[j]?:=fun j hj=>by
  rw[Array.getElem?_pop]
  rw[if_pos (by omega)]
 have hlp:∀(l:Array Bool),l.size=m+1→∀j d,j<m→l.pop.getD j d=l.getD j d:=fun l hl j d hj=>by
  simp only[Array.getD_eq_getD_getElem?,Array.getElem?_pop]
  rw[if_pos (by omega)]
 have hdep:∀i,i<m+1→∀d∈depsAt os i,d<i:=fun i hi d hd=>by
  simp only[depsAsc,List.all_eq_true,List.mem_range,hsz]at hasc;exact blt_lt (hasc i hi d hd)
 have hready:∀(listed:Array Bool),listed.size=m+1→∀i,i<m→(i∈Region.ready .any os.pop listed.pop↔i∈Region.ready .any os listed):=by
  intro listed hl i hi;rw[mem_ready,mem_ready,hpop i hi,hlp listed hl i true hi]
  constructor
  ·rintro ⟨h1,o,h2,h3⟩
   refine ⟨h1,o,h2,fun e he hb=>?_⟩
   have:=h3 e he hb
   rwa [hlp listed hl e.on false (by have:=hdep i (by omega) e.on ((dep_mem h2).2 ⟨e,he,hb,rfl⟩);omega)]at this
  ·rintro ⟨h1,o,h2,h3⟩
   refine ⟨h1,o,h2,fun e he hb=>?_⟩
   rw[hlp listed hl e.on false (by have:=hdep i (by omega) e.on ((dep_mem h2).2 ⟨e,he,hb,rfl⟩);omega)]
   exact h3 e he hb
 have hlast:∀(listed:Array Bool),listed.size=m+1→ShutL os (fun j=>listed.getD j false=true)→m∈Region.ready .any os listed→∀j,j<m→listed.getD j false=true:=by
  intro listed hl hs hm j hj;rw[mem_ready]at hm;obtain ⟨_,o,ho,h3⟩:=hm;simp only[List.all_eq_true,List.mem_range]at hanc;have:=hanc j hj;rw[List.contains_iff_mem]at this
  refine ancs_ok hs m _ (fun d hd=>?_) j this
  obtain ⟨e,he,hb,rfl⟩:=(dep_mem ho).1 hd;exact h3 e he hb
 have hnone:∀(listed:Array Bool),listed.size=m+1→Region.ready .any os.pop listed.pop=[]→∀j,j<m→listed.getD j false=true:=by
  intro listed hl hr j
  induction j using Nat.strongRecOn with
  | _ j ih =>
   intro hj
   cases hc:listed.getD j false with
   | true=>rfl
   | false =>
    exfalso
    have hlt:j<os.size:=by omega
    have ho:os[j]?=some os[j]:=Array.getElem?_eq_getElem hlt
    have:j∈Region.ready .any os.pop listed.pop:=by
     rw[hready listed hl j hj,mem_ready]
     refine ⟨by rw[getD_tf (by omega)];exact hc,_,ho,fun e he hb=>?_⟩
     have hd:=hdep j (by omega) e.on ((dep_mem ho).2 ⟨e,he,hb,rfl⟩)
     exact ih e.on hd (by omega)
    rw[hr]at this;cases this
 have hall:∀(listed:Array Bool),listed.size=m+1→(∀j,j<m→listed.getD j false=true)→∀j,j<os.size→(listed.setIfInBounds m true).getD j true=true:=by
  intro listed hl h j hj
  by_cases hjm:j=m
  ·subst hjm;simp [Array.getD_eq_getD_getElem?,hl]
  ·rw[getD_set_ne true (Ne.symm hjm),getD_tf (by omega)]
   exact h j (by omega)
 have hend:∀(fuel:Nat) (listed:Array Bool) (a:Act) (w:World),listed.size=m+1→listed.getD m false=false→ShutL os (fun j=>listed.getD j false=true)→(∀j,j<m→listed.getD j false=true)→wpOpsIn F n P os Q [m] a w→wpAnyIn F n P .any os Q (fuel+1) listed a w:=by
  intro fuel listed a w hl hlm hs h hq
  have hms:m<os.size:=by omega
  have ho:os[m]?=some os[m]:=Array.getElem?_eq_getElem hms
  have hmr:m∈Region.ready .any os listed:=by
   rw[mem_ready]
   refine ⟨by rw[getD_tf (by omega)];exact hlm,_,ho,fun e he hb=>?_⟩
   exact h e.on (hdep m (by omega) e.on ((dep_mem ho).2 ⟨e,he,hb,rfl⟩))
  refine ⟨fun hr=>(by rw[hr]at hmr;cases hmr),fun i hi=>?_⟩
  have him:i=m:=by
   rw[mem_ready]at hi;obtain ⟨h1,o,h2,_⟩:=hi
   have hi2:i<os.size:=(Array.getElem?_eq_some_iff.1 h2).1
   by_cases hlt:i<m
   ·rw[getD_tf (by omega),h i hlt]at h1;cases h1
   ·omega
  subst him;rw[wpOpsIn_cons]at hq
  refine wpOpIn_mono (fun a w hk=>?_) hq
  exact any_full _ _ (hall listed hl h) hk
 intro fuel
 induction fuel with
 | zero =>
  intro listed a w hl hlm hs hh;have hr:=hh.1;have hq:=hh.2;exact hend 0 listed a w hl hlm hs (hnone listed hl hr) hq
 | succ fuel ih =>
  intro listed a w hl hlm hs hh;obtain ⟨hq,hi'⟩:=hh
  cases hr:Region.ready .any os.pop listed.pop with
  | nil=>exact hend (fuel+1) listed a w hl hlm hs (hnone listed hl hr) (hq hr)
  | cons x xs =>
   have hxm:∀i,i∈Region.ready .any os.pop listed.pop→i<m:=fun i hi=>by
    rw[mem_ready]at hi;obtain ⟨_,o,h2,_⟩:=hi
    have:=(Array.getElem?_eq_some_iff.1 h2).1
    simp at this;omega
   have hx:x∈Region.ready .any os.pop listed.pop:=by rw[hr];simp
   have hxl:=(hready listed hl x (hxm x hx)).1 hx
   refine ⟨fun h=>(by rw[h]at hxl;cases hxl),fun i hi=>?_⟩
   by_cases him:i=m
   ·subst him
    have:=hlast listed hl hs hi x (hxm x hx);rw[mem_ready]at hxl
    rw[getD_tf (by have:=hxm x hx;omega),this]at hxl
    cases hxl.1
   ·have hilt:i<m:=by
     rw[mem_ready]at hi;obtain ⟨_,o,h2,_⟩:=hi
     have:=(Array.getElem?_eq_some_iff.1 h2).1
     omega
    have h1:=hi' i ((hready listed hl i hilt).2 hi)
    have hlo:(listed.setIfInBounds i true).pop=listed.pop.setIfInBounds i true:=by
     apply Array.ext_getElem?
     intro j
     simp only[Array.getElem?_pop,Array.getElem?_setIfInBounds,Array.size_setIfInBounds,Array.size_pop]
     by_cases hj:j<listed.size-1
     ·simp only[if_pos hj]
      by_cases hij:i=j
      ·subst hij;simp [hj];omega
      ·simp [hij]
     ·simp only[if_neg hj]
      by_cases hij:i=j
      ·subst hij;omega
      ·simp [hij]
    have hrec:∀(a:Act) (w:World),wpAnyIn F n P .any os.pop (behind F n P os m Q) fuel (listed.pop.setIfInBounds i true) a w→wpAnyIn F n P .any os Q (fuel+1) (listed.setIfInBounds i true) a w:=by
     intro a w hk
     refine ih _ a w (by simp [hl]) ?_ ?_ (by rw[hlo];exact hk)
     ·rw[getD_set_ne false him];exact hlm
     ·intro j hj d hd
      have hi2:=hi;rw[mem_ready]at hi2;obtain ⟨_,o,h2,h3⟩:=hi2
      by_cases hji:j=i
      ·subst hji
       obtain ⟨e,he,hb,rfl⟩:=(dep_mem h2).1 hd;exact getD_set_true (h3 e he hb)
      ·rw[getD_set_ne false (Ne.symm hji)]at hj
       exact getD_set_true (hs j hj d hd)
    have ho:=hpop i hilt;unfold wpOpIn at h1 ⊢;rw[ho]at h1
    split at h1
    ·rename_i he;exact hrec a w h1
    ·rename_i o he
     have hwant:Region.wanted o (yielded os.pop a.tmps)=Region.wanted o (yielded os a.tmps):=by
      unfold Region.wanted
      split
      ·rfl
      ·rename_i j want hg
       have:j<m:=by
        simp only[guardsIn,List.all_eq_true,List.mem_range]at hgu;have:=hgu i hilt;rw[he]at this;simp only[Option.bind_some,hg]at this;exact blt_lt this
       unfold yielded;rw[hpop j this]
     rw[hwant]at h1
     split at h1
     ·rename_i hwt
      rw[if_pos hwt]
      refine Oper.wpIn_mono (fun a w hk=>hrec a w hk) ⟨h1.1,upon_q (fun _ _ _ h=>h) (fun h=>h) h1.2⟩
     ·rename_i hwt
      rw[if_neg hwt];exact ⟨h1.1,hrec _ _ h1.2⟩
end
def drawnW (P:Program)(self:Self)(rd:Option Nat)(id:Nat)(os:Array Oper)(s:St):Option Out :=
 match waits os (os.size-1)&&Nat.blt 0 os.size with
 | true=>(match drawnX P self rd id os.pop s with
  | some (.ex .normal s')=>runOps P self rd os [os.size-1] s'
  | _=>none)
 | false=>drawnX P self rd id os s
theorem drawnW_ok {P:Program}(hN:NoNG P) (hm:P.follows .mixedOrders=true):DrawnOk P drawnW:=by
 intro self hs rd id os s o h;unfold drawnW at h
 split at h
 ·rename_i hw
  rw[Bool.and_eq_true]at hw;obtain ⟨hw,hz⟩:=hw;have hz:0<os.size:=blt_lt hz
  obtain ⟨m,hm1⟩:∃m,os.size=m+1:=⟨os.size-1,by omega⟩
  rw[hm1,Nat.add_sub_cancel]at h hw
  split at h
  case h_2=>cases h
  rename_i s' hd1;obtain ⟨s2,he,hA⟩:=drawnX_any hN hs hd1
  cases he
  by_cases hb:s.h.base≤s.h.bl.length
  ·obtain ⟨hp,hA⟩:=hA hb
   have hb':s'.h.base≤s'.h.bl.length:=by rw[hp.base];exact Nat.le_trans hb hp.len
   obtain ⟨e,s3,rfl,hp2,hh⟩:=runOps_sound hN hs _ s' o h hb'
   refine fun _=>⟨hp.trans hp2,?_⟩
   intro K w0 φ w a F n hI ht hd hF
   refine wpIn_region_any hm ?_
   rw[hm1]
   have hrep:∀j,(Array.replicate (m+1) false).getD j false=false:=fun j=>by
    simp only[Array.getD_eq_getD_getElem?,Array.getElem?_replicate]
    split<;>rfl
   refine any_last hm1 hw m _ a _ (by simp) (hrep m) (fun i hi=>by have hi:(Array.replicate (m+1) false).getD i false=true:=hi;rw[hrep]at hi;cases hi) ?_
   have:=hA K w0 φ w a F n rd (behind F n P os m (CodeR K w0 φ e s3)) hI ht hd hF (fun x a w' hc=>?_)
   ·have e1:(Array.replicate (m+1) false).pop=Array.replicate os.pop.size false:=by
     apply Array.ext_getElem?
     intro j
     simp only[Array.getElem?_pop,Array.getElem?_replicate,Array.size_replicate,Array.size_pop,hm1]
     by_cases hj:j<m
     ·simp [hj];omega
     ·simp [hj]
    have e2:os.pop.size=m:=by simp [hm1]
    rw[e1];rw[e2]at this ⊢;exact this
   ·obtain ⟨φ',hle,hx,hT,hD,hI'⟩:=hc
    cases hx
    exact hh K w0 φ' w' a F n _ hI' hT hD (hF.mono hle) (fun x a w' hq=>hq.mono hle)
  ·obtain ⟨e,s3,rfl⟩:=step_ok.runOps_ex _ _ _ h
   exact fun h=>absurd h hb
 ·exact drawnX_ok hN hm self hs rd id os s o h
def lastCall (os:Array Oper):Bool:=match os[os.size-1]? with
 | some o=>(match o.op with | .call _=>true | _=>false)
 | none=>false
def drawnV (P:Program)(self:Self)(rd:Option Nat)(id:Nat)(os:Array Oper)(s:St):Option Out :=
 match lastCall os&&(waits os (os.size-1)&&Nat.blt 0 os.size) with
 | true=>(match drawnX P self rd id os.pop s with
  | some (.ex .normal s')=>runOps P self rd os [os.size-1] s'
  | _=>none)
 | false=>drawnX P self rd id os s
theorem drawnV_ok {P:Program}(hN:NoNG P) (hm:P.follows .mixedOrders=true):DrawnOk P drawnV:=by
 intro self hs rd id os s o h;unfold drawnV at h
 split at h
 ·rename_i hw
  rw[Bool.and_eq_true]at hw
  refine drawnW_ok hN hm self hs rd id os s o ?_
  unfold drawnW;rw[hw.2];exact h
 ·exact drawnX_ok hN hm self hs rd id os s o h
def drawnVC (P:Program)(self:SelfC)(rd:Option Nat)(os:Array Oper)(s:St)(k:Ex→St→Option Out):Option Out :=
 match lastCall os&&(waits os (os.size-1)&&Nat.blt 0 os.size) with
 | true=>drawnXC P self os.pop s fun e s'=>(match e with
  | .normal=>runOpsC P self rd os [os.size-1] s' k
  | _=>none)
 | false=>drawnXC P self os s k
theorem drawnVC_ok {P:Program}{self:SelfC}{sd:Self}(hs:CpsOk self sd) {rd:Option Nat}{id:Nat}{os:Array Oper}{s:St}{k:Ex→St→Option Out}{r:Out}(hc:drawnVC P self rd os s k=some r) :
  ∃e s',drawnV P sd rd id os s=some (.ex e s')∧k e s'=some r:=by
 unfold drawnVC at hc;unfold drawnV
 by_cases hw:(lastCall os&&(waits os (os.size-1)&&Nat.blt 0 os.size))=true
 ·rw[hw]at hc ⊢
  obtain ⟨e,s',h1,h2⟩:=drawnXC_ok (rd:=rd) (id:=id) hs hc;simp only[h1]
  cases e with
  | normal=>exact runOpsC_ok hs h2
  | _=>cases h2
 ·rw[Bool.eq_false_iff.2 hw]at hc ⊢
  exact drawnXC_ok hs hc
def iterO (orc:Self)(drawn:Program→Self→Option Nat→Nat→Array Oper→St→Option Out)(P:Program):Nat→Self
 | 0=>orc
 | n+1=>fun t=>match orc t with
  | some o=>some o
  | none=>stepF drawn P (iterO orc drawn P n) t
theorem iterO_ok {P:Program}{orc:Self}{drawn:Program→Self→Option Nat→Nat→Array Oper→St→Option Out}(hN:NoNG P) (hdr:DrawnOk P drawn) (ho:SelfOk P orc) (hl:LoopOk P orc) :
  ∀n,SelfOk P (iterO orc drawn P n)∧LoopOk P (iterO orc drawn P n)
 | 0=>⟨ho,hl⟩
 | n+1=>by
  obtain ⟨h1,h2⟩:=iterO_ok hN hdr ho hl n
  constructor
  ·intro t o h
   simp only[iterO]at h
   split at h
   ·rename_i o' ho'
    cases h
    exact ho _ _ ho'
   ·exact step_ok hN hdr h1 h2 t o h
  ·intro rd c s e s' hc hb
   simp only[iterO]at hc
   split at hc
   ·rename_i o' ho'
    cases hc
    exact hl _ _ _ _ _ ho' hb
   ·obtain ⟨e1,s1,he,hh⟩:=loop_sound (drawn:=drawn) h1 h2 hc
    cases he
    exact (hh hb).2
def resC (P:Program)(H:List Ob)(t:List Value):List ResultVar→(List Value→Option Out)→Option Out
 | [],k=>k []
 | .tmp x::r,k=>headK (lget t x) fun v=>resC P H t r fun vs=>k (v::vs)
 | .cell a ty::r,k =>
  match symLoad P H ty (lget t a) with
  | some (b,v)=>cond b (headK v fun v=>resC P H t r fun vs=>k (v::vs)) none
  | none=>none
theorem resC_ok {P:Program}{H:List Ob}{t:List Value}:∀{rs:List ResultVar}{k:List Value→Option Out}{r:Out},resC P H t rs k=some r→∃vs,resL P H t.toArray rs=some vs∧k vs=some r
 | [],k,r,h=>⟨_,rfl,h⟩
 | .tmp x::l,k,r,h=>by
  simp only[resC,headK_eq]at h;obtain ⟨vs,h1,h2⟩:=resC_ok h
  exact ⟨_,by simp only[resL,h1,Option.map_some,← lget_eq],h2⟩
 | .cell a ty::l,k,r,h=>by
  simp only[resC]at h
  split at h
  ·rename_i b v hs
   obtain ⟨h1,h⟩:=cond_some h;rw[headK_eq]at h;obtain ⟨vs,h2,h3⟩:=resC_ok h
   exact ⟨_,by simp only[resL,← lget_eq,symLoad_ok hs h1,h2],h3⟩
  ·cases h
def one (vs:List Value):Value:=match vs with | [v]=>v | vs=>.tuple ⟨vs⟩
def mapSc (n:Nat)(es:List (Value×Value)):Bool:=es.all fun e=>scT n e.2
def wrMK (bl:List Ob)(n:Nat):List Nat→Option Out→Option Out
 | [],y=>y
 | b::r,y =>
  match nthO bl b with
  | some (.map es)=>cond (mapSc n es) (wrMK bl n r y) none
  | some o=>if obSc n o then wrMK bl n r y else none
  | none=>none
theorem wrMK_ok {bl:List Ob}{n:Nat}{x:Out}:∀{l:List Nat}{y:Option Out},wrMK bl n l y=some x→(l.all fun b=>(bl[b]?).all (obSc n))=true∧y=some x
 | [],_,h=>⟨rfl,h⟩
 | b::r,y,h=>by
  simp only[wrMK]at h;rw[nthO_eq]at h
  split at h
  ·rename_i es he
   obtain ⟨h1,h2⟩:=cond_some h;obtain ⟨h3,h4⟩:=wrMK_ok h2
   refine ⟨?_,h4⟩
   rw[List.all_cons,he,h3,Bool.and_true];exact h1
  ·rename_i o _ ho
   split at h
   ·rename_i h1
    obtain ⟨h3,h4⟩:=wrMK_ok h
    refine ⟨?_,h4⟩
    rw[List.all_cons,ho,h3,Bool.and_true];exact h1
   ·cases h
  ·cases h
def anyMap (bl:List Ob)(l:List Nat):Bool:=l.any fun b=>match nthO bl b with
 | some (.map _)=>true
 | _=>false
def exitK (h hf:Hp)(v:Value)(k:Hp→Option Out):Option Out :=
 if scT h.bl.length v&&hf.wr.isEmpty then k h
 else if anyMap hf.bl hf.wr then
  (if scT h.bl.length v then wrMK hf.bl h.bl.length hf.wr (heapK { bl:=hf.bl.take h.bl.length,base:=h.base,wr:=hf.wr.filter (fun b=>decide (b<h.base))++h.wr } k) else none)
 else heapK (exitH h hf v) k
theorem exitK_ok {h hf:Hp}{v:Value}{k:Hp→Option Out}{r:Out}(hx:exitK h hf v k=some r):k (exitH h hf v)=some r:=by
 unfold exitK at hx
 split at hx
 ·rename_i hh;unfold exitH;rw[if_pos hh];exact hx
 ·rename_i hh
  split at hx
  ·split at hx
   ·rename_i hv
    obtain ⟨h1,h2⟩:=wrMK_ok hx;rw[heapK_eq]at h2;unfold exitH
    rw[if_neg hh,if_pos (by rw[hv,h1];rfl)]
    exact h2
   ·cases hx
  ·rw[heapK_eq]at hx;exact hx
def leaveC (P:Program)(self:SelfC)(fn:Func)(t:List Value)(h:Hp):List Deferred→Mo→Hp→Kn→Option Out
 | [],.returning,hf,k=>resC P hf.bl t fn.results.toList fun vs=>headK (one vs) fun v=>exitK h hf v fun h=>k (.ret v h)
 | [],.panicking v false,hf,k=>headK v fun v=>exitK h hf v fun h=>k (.pan v h)
 | [],.panicking _ true,_,_=>none
 | d::ds,m,hf,k =>
  match d.target with
  | .collected r =>
   match nthO hf.bl r with
   | some (.dfr false)=>heapK (hf.put r (.dfr true)) fun hf=>leaveC P self fn t h ds m hf k
   | _=>none
  | .fn (.func g) cap =>
   if bodied P g then
    self (.dcall g (d.args++cap) m hf) fun
     | .dret m' h'=>leaveC P self fn t h ds (settleM m') h' k
     | _=>none
   else none
  | _=>none
theorem resB_one {P:Program}{H:List Ob}{fn:Func}{t:Array Value}{vs:List Value}(h:resL P H t fn.results.toList=some vs):resB P H fn t=some (one vs):=by
 unfold resB;rw[h]
 cases vs with
 | nil=>rfl
 | cons v r=>cases r with
  | nil=>rfl
  | cons _ _=>rfl
section
variable {P:Program}{self:SelfC}{sd:Self}
theorem leaveC_ok (hs:CpsOk self sd) {fn:Func}{t:List Value}{h:Hp}:∀{ds:List Deferred}{m:Mo}{hf:Hp}{k:Kn}{r:Out},leaveC P self fn t h ds m hf k=some r →
  ∃o,leave P sd fn t h ds m hf=some o∧k o=some r
 | [],.returning,hf,k,r,hc=>by
  simp only[leaveC]at hc;obtain ⟨vs,h1,h2⟩:=resC_ok hc;rw[headK_eq]at h2
  exact ⟨_,by simp only[leave,resB_one h1,Option.map_some],exitK_ok h2⟩
 | [],.panicking v false,hf,k,r,hc=>by
  simp only[leaveC]at hc;rw[headK_eq]at hc;exact ⟨_,rfl,exitK_ok hc⟩
 | [],.panicking v true,hf,k,r,hc=>by cases hc
 | d::ds,m,hf,k,r,hc=>by
  simp only[leaveC]at hc;simp only[leave]
  split at hc
  ·rename_i x hx
   rw[hx];rw[nthO_eq]at hc;simp only
   split at hc
   ·rename_i hb
    rw[hb];rw[heapK_eq]at hc;exact leaveC_ok hs hc
   ·cases hc
  ·rename_i g cap hx
   rw[hx];simp only
   split at hc
   ·rename_i hb
    rw[if_pos hb];obtain ⟨o,h1,h2⟩:=hs _ _ _ hc;rw[h1]
    cases o with
    | dret m' h'=>exact leaveC_ok hs h2
    | _=>cases h2
   ·cases hc
  ·cases hc
def isRec (o:Oper):Bool:=match o.op with | .call { callee:=.builtin .recover,.. }=>true | _=>false
def runDOpsC (P:Program)(os:Array Oper):List Nat→St→Mo→(Ex→St→Mo→Option Out)→Option Out
 | [],s,m,k=>k .normal s m
 | i::r,s,m,k =>
  match os[i]? with
  | none=>runDOpsC P os r s m k
  | some o =>
   guardC os o s.t
    (fun t=>match isRec o with
      | true=>(match aop P (evalT t) s.h o with
       | some .recover=>(match m with
        | .panicking v false=>setK' t o.dst v fun t=>runDOpsC P os r { t:=t,d:=s.d,h:=s.h } (.panicking v true) k
        | m=>setK' t o.dst .nilIface fun t=>runDOpsC P os r { t:=t,d:=s.d,h:=s.h } m k)
       | _=>none)
      | false=>opC P (evalT t) s.h o {
       val:=fun v h=>setK' t o.dst v fun t=>runDOpsC P os r { t:=t,d:=s.d,h:=h } m k
       enter:=fun _ _=>none
       yield:=fun _ _=>none
       defer:=fun _=>none
       panic:=fun _=>none })
    (fun t=>setK' t o.dst undef fun t=>runDOpsC P os r { t:=t,d:=s.d,h:=s.h } m k)
theorem runDOpsC_ok {P:Program}{os:Array Oper}:∀{l:List Nat}{s:St}{m:Mo}{k:Ex→St→Mo→Option Out}{r:Out},runDOpsC P os l s m k=some r →
  ∃e s' m',runDOps P os l s m=some (e,s',m')∧k e s' m'=some r
 | [],s,m,k,r,h=>⟨_,_,_,rfl,h⟩
 | i::l,s,m,k,r,h=>by
  simp only[runDOpsC]at h;simp only[runDOps]
  split at h
  ·rename_i hi
   rw[hi];exact runDOpsC_ok h
  ·rename_i o hi
   rw[hi];simp only[putK_eq,forceH_eq]
   rcases guardC_ok h with ⟨hw,h⟩ | ⟨hw,h⟩
   ·rw[if_pos hw]
    split at h
    ·split at h
     ·rename_i ha
      rw[ha];simp only
      split at h
      ·simp only[setK'_eq]at h
       exact runDOpsC_ok h
      ·rename_i hm
       simp only[setK'_eq]at h;obtain ⟨e,s',m',h1,h2⟩:=runDOpsC_ok h
       refine ⟨e,s',m',?_,h2⟩
       split
       ·exact (hm _ rfl).elim
       ·exact h1
     ·cases h
    ·obtain ⟨nx,h1,h2⟩:=opC_ok h
     rw[h1]
     cases nx with
     | val v hp =>
      simp only[Ends.on,setK'_eq]at h2;exact runDOpsC_ok h2
     | _=>cases h2
   ·rw[if_neg (by rw[hw];intro h;cases h)]
    simp only[setK'_eq]at h;exact runDOpsC_ok h
def dcodeC (P:Program)(self:SelfC):Code→St→Mo→(Ex→St→Mo→Option Out)→Option Out
 | .seq a b,s,m,k=>dcodeC P self a s m fun e s' m'=>match e with
  | .normal=>dcodeC P self b s' m' k
  | e=>k e s' m'
 | .cond c x y,s,m,k=>if okO c then (match evalT s.t c with
   | .bool b=>cond b (dcodeC P self x s m k) (dcodeC P self y s m k)
   | _=>none) else none
 | .region id os dr,s,m,k =>
  if hasRecover os&&!dr then runDOpsC P os (List.range os.size) s m k
  else self (.code none (.region id os dr) s) fun
   | .ex e s'=>k e s' m
   | _=>none
 | c,s,m,k=>self (.code none c s) fun
  | .ex e s'=>k e s' m
  | _=>none
section
variable {P:Program}{self:SelfC}{sd:Self}
theorem dplainC_ok (hs:CpsOk self sd) {c:Code}{s:St}{m:Mo}{k:Ex→St→Mo→Option Out}{r:Out}(h:self (.code none c s) (fun | .ex e s'=>k e s' m | _=>none)=some r) :
  ∃e s' m',(match sd (.code none c s) with | some (.ex e s')=>some (e,s',m) | _=>none)=some (e,s',m')∧k e s' m'=some r:=by
 obtain ⟨o,h1,h2⟩:=hs _ _ _ h;rw[h1]
 cases o with
 | ex e s'=>exact ⟨e,s',m,rfl,h2⟩
 | _=>cases h2
theorem dcodeC_ok (hs:CpsOk self sd):∀{c:Code}{s:St}{m:Mo}{k:Ex→St→Mo→Option Out}{r:Out},dcodeC P self c s m k=some r→∃e s' m',dcode P sd c s m=some (e,s',m')∧k e s' m'=some r
 | .seq a b,s,m,k,r,h=>by
  obtain ⟨e,s',m',h1,h2⟩:=dcodeC_ok hs (c:=a) (k:=fun e s' m'=>match e with | .normal=>dcodeC P self b s' m' k | e=>k e s' m') h
  simp only[dcode];rw[h1]
  cases e with
  | normal=>exact dcodeC_ok hs (c:=b) h2
  | ret=>exact ⟨_,_,_,rfl,h2⟩
  | exit id=>exact ⟨_,_,_,rfl,h2⟩
  | goto l=>exact ⟨_,_,_,rfl,h2⟩
  | panic v=>exact ⟨_,_,_,rfl,h2⟩
 | .cond c x y,s,m,k,r,h=>by
  simp only[dcodeC]at h;simp only[dcode]
  split at h
  ·rename_i hx
   rw[if_pos hx]
   split at h
   ·rename_i b hb
    rw[hb]
    cases b with
    | true=>exact dcodeC_ok hs (c:=x) h
    | false=>exact dcodeC_ok hs (c:=y) h
   ·cases h
  ·cases h
 | .region id os dr,s,m,k,r,h=>by
  simp only[dcodeC]at h;simp only[dcode]
  split at h
  ·rename_i hx
   rw[if_pos hx];exact runDOpsC_ok h
  ·rename_i hx
   rw[if_neg hx];exact dplainC_ok hs h
 | .skip,s,m,k,r,h=>dplainC_ok hs h
 | .label _,s,m,k,r,h=>dplainC_ok hs h
 | .exit _,s,m,k,r,h=>dplainC_ok hs h
 | .goto _,s,m,k,r,h=>dplainC_ok hs h
 | .ret,s,m,k,r,h=>dplainC_ok hs h
 | .block _ _,s,m,k,r,h=>dplainC_ok hs h
 | .loop _,s,m,k,r,h=>dplainC_ok hs h
 | .rangeFunc _ _ _ _,s,m,k,r,h=>dplainC_ok hs h
 | .scope _,s,m,k,r,h=>dplainC_ok hs h
 | .refuse _,s,m,k,r,h=>dplainC_ok hs h
end
def endLoopC (self:SelfC)(rd:Option Nat)(L:Nat)(d:List Deferred)(t:List Value)(k:Kn):Kn
 | .ret _ h =>
  match nthO h.bl L with
  | some (.loop st pend t' ps a b D) =>
   match st with
   | .busy=>none
   | _ =>
   match pend with
   | none=>heapK (h.put L (.loop .exhausted none t' ps a b D)) fun h=>k (.ex .normal { t:=t,d:=d,h:=h })
   | some c=>heapK (h.put L (.loop .exhausted (some c) t' ps a b D)) fun h=>self (.code rd c { t:=t,d:=d,h:=h }) fun
    | .ex e s=>k (.ex e s)
    | _=>none
  | _=>none
 | _=>none
theorem endLoopC_ok (hs:CpsOk self sd) {rd:Option Nat}{L:Nat}{d:List Deferred}{t:List Value}{k:Kn}{o r:Out}(hc:endLoopC self rd L d t k o=some r):∃o',endLoop sd rd L d t (some o)=some o'∧k o'=some r:=by
 cases o with
 | ret v h =>
  simp only[endLoopC]at hc;rw[nthO_eq]at hc;simp only[endLoop]
  split at hc
  ·rename_i st pend t' ps a b D hb
   rw[hb];simp only
   split at hc
   ·cases hc
   ·rename_i hst
    rw[if_neg hst]
    split at hc
    ·rw[heapK_eq]at hc
     exact ⟨_,rfl,hc⟩
    ·rw[heapK_eq]at hc
     obtain ⟨o',h1,h2⟩:=hs _ _ _ hc;simp only;rw[h1]
     cases o' with
     | ex e s=>exact ⟨_,rfl,h2⟩
     | _=>cases h2
  ·cases hc
 | _=>cases hc
def pushK {β:Type}(h:Hp) (ob:Ob) (k:Hp→β):β:=heapK (h.push ob) k
theorem pushK_eq {β:Type}(h:Hp) (ob:Ob) (k:Hp→β):pushK h ob k=k (h.push ob):=heapK_eq _ _
def stepC (P:Program)(self:SelfC):SelfC
 | .code rd c s,k =>
  match c with
  | .skip | .label _=>k (.ex .normal s)
  | .exit id=>k (.ex (.exit id) s)
  | .goto l=>k (.ex (.goto l) s)
  | .ret=>k (.ex .ret s)
  | .seq a b=>self (.code rd a s) fun
   | .ex .normal s'=>self (.code rd b s') fun
    | .ex e s2=>k (.ex e s2)
    | _=>none
   | .ex e s'=>k (.ex e s')
   | _=>none
  | .cond c x y =>
   if okO c then match c with
    | .tmp d=>(match lget s.t d with
     | .bool b=>cond b (litK s.t d true fun t=>self (.code rd x { t:=t,d:=s.d,h:=s.h }) fun | .ex e s'=>k (.ex e s') | _=>none)
       (litK s.t d false fun t=>self (.code rd y { t:=t,d:=s.d,h:=s.h }) fun | .ex e s'=>k (.ex e s') | _=>none)
     | _=>none)
    | _=>(match evalT s.t c with
     | .bool b=>cond b (self (.code rd x s) fun | .ex e s'=>k (.ex e s') | _=>none) (self (.code rd y s) fun | .ex e s'=>k (.ex e s') | _=>none)
     | _=>none)
   else none
  | .block id c=>self (.code rd c s) fun
   | .ex (.exit id') s'=>if id'=id then k (.ex .normal s') else k (.ex (.exit id') s')
   | .ex e s'=>k (.ex e s')
   | _=>none
  | .loop c=>self (.code rd c s) fun
   | .ex .normal s'=>self (.code rd (.loop c) s') fun | .ex e s2=>k (.ex e s2) | _=>none
   | .ex e s'=>k (.ex e s')
   | _=>none
  | .region _ os dr=>(match dr with
   | true=>drawnVC P self rd os s fun e s'=>k (.ex e s')
   | false=>runOpsC P self rd os (List.range os.size) s fun e s'=>k (.ex e s'))
  | .rangeFunc g ps assign body =>
   if okO g then match evalT s.t g with
    | .func (.func f) first cap =>
     if bodied P f then
      match rd with
      | none=>pushK s.h (.dfr false) fun h1=>pushK h1 (loopNew s ps assign body s.h.bl.length) fun h2 =>
       headsK (first.toList++(.func (.yield (s.h.bl.length+1)) #[] #[]::cap.toList)) fun args =>
       self (.call f ⟨args⟩ h2) (endLoopC self none (s.h.bl.length+1) ({ target:=.collected s.h.bl.length,args:=#[] }::s.d) s.t k)
      | some l0=>match nthO s.h.bl l0 with
       | some (.loop _ _ _ _ _ _ D)=>pushK s.h (loopNew s ps assign body D) fun h2 =>
        headsK (first.toList++(.func (.yield s.h.bl.length) #[] #[]::cap.toList)) fun args =>
        self (.call f ⟨args⟩ h2) (endLoopC self (some l0) s.h.bl.length s.d s.t k)
       | _=>none
     else none
    | _=>none
   else none
  | _=>none
 | .call f args h,k =>
  match P.funcs[f]? with
  | some fn=>match fn.body with
   | some c=>headsK (frame fn args) fun t=>self (.code none c { t:=t,d:=[],h:=enterH h }) fun
    | .ex .normal s | .ex .ret s=>leaveC P self fn s.t h s.d .returning s.h k
    | .ex (.panic v) s=>leaveC P self fn s.t h s.d (.panicking v false) s.h k
    | _=>none
   | none=>none
  | none=>none
 | .dcall f args m h,k =>
  match P.funcs[f]? with
  | some fn=>match fn.body with
   | some c=>headsK (frame fn args) fun t=>dcodeC P self c { t:=t,d:=[],h:=enterH h } m fun e s m'=>match e with
    | .normal | .ret=>if s.d.isEmpty then resC P s.h.bl s.t fn.results.toList fun _=>exitK h s.h (moVal m') fun h=>k (.dret m' h) else none
    | _=>none
   | none=>none
  | none=>none
 | .round l args h,k =>
  match nthO h.bl l with
  | some (.loop .ready _ t ps assign body _) =>
   if args.size=ps.size then
    headsK ((ps.zip args).foldl (fun t (p,a)=>t.setIfInBounds p a) t).toList fun t =>
    self (.code (some l) assign { t:=t,d:=[],h:=h }) fun
    | .ex .normal s1=>(match nthO s1.h.bl l with
     | some (.loop .ready pend1 t1 ps1 a1 b1 D1) =>
      heapK (s1.h.put l (.loop .busy pend1 t1 ps1 a1 b1 D1)) fun h =>
      self (.code (some l) body { t:=s1.t,d:=s1.d,h:=h }) fun
      | .ex e s2=>(match jumpOf e,nthO s2.h.bl l with
       | some j,some (.loop _ _ t2 ps2 a2 b2 D2)=>heapK (s2.h.put l (.loop (if j.isNone then .ready else .done) j t2 ps2 a2 b2 D2)) fun h=>k (.ret (.bool j.isNone) h)
       | _,_=>none)
      | _=>none
     | _=>none)
    | _=>none
   else none
  | _=>none
theorem code_ex (hs:CpsOk self sd) {rd:Option Nat}{c:Code}{s:St}{f:Ex→St→Option Out}{r:Out}(hc:self (.code rd c s) (fun | .ex e s'=>f e s' | _=>none)=some r) :
  ∃e s',sd (.code rd c s)=some (.ex e s')∧f e s'=some r:=by
 obtain ⟨o,h1,h2⟩:=hs _ _ _ hc
 cases o with
 | ex e s'=>exact ⟨e,s',h1,h2⟩
 | _=>cases h2
theorem stepC_code (hs:CpsOk self sd) {rd:Option Nat}{c:Code}{s:St}{k:Kn}{r:Out}(hc:stepC P self (.code rd c s) k=some r):∃o,stepF drawnV P sd (.code rd c s)=some o∧k o=some r:=by
 cases c with
 | skip=>exact ⟨_,rfl,hc⟩
 | label l=>exact ⟨_,rfl,hc⟩
 | exit id=>exact ⟨_,rfl,hc⟩
 | goto l=>exact ⟨_,rfl,hc⟩
 | ret=>exact ⟨_,rfl,hc⟩
 | seq a b =>
  simp only[stepC]at hc;obtain ⟨o,h1,h2⟩:=hs _ _ _ hc;simp only[stepF,h1]
  cases o with
  | ex e s' =>
   cases e with
   | normal =>
    obtain ⟨e,s2,h3,h4⟩:=code_ex hs h2;simp only[h3];exact ⟨_,rfl,h4⟩
   | _=>exact ⟨_,rfl,h2⟩
  | _=>cases h2
 | cond c x y =>
  simp only[stepC]at hc
  split at hc
  ·rename_i hk
   simp only[stepF,hk,if_true]
   split at hc
   ·rename_i d
    split at hc
    ·rename_i b hl
     have he:evalT s.t (.tmp d)=.bool b:=hl;rw[he]
     cases b with
     | true =>
      rw[cond_true,litK_eq hl]at hc;obtain ⟨e,s2,h3,h4⟩:=code_ex hs hc;simp only[h3];exact ⟨_,rfl,h4⟩
     | false =>
      rw[cond_false,litK_eq hl]at hc;obtain ⟨e,s2,h3,h4⟩:=code_ex hs hc;simp only[h3];exact ⟨_,rfl,h4⟩
    ·cases hc
   ·split at hc
    ·rename_i b he
     rw[he]
     cases b with
     | true =>
      rw[cond_true]at hc;obtain ⟨e,s2,h3,h4⟩:=code_ex hs hc;simp only[h3];exact ⟨_,rfl,h4⟩
     | false =>
      rw[cond_false]at hc;obtain ⟨e,s2,h3,h4⟩:=code_ex hs hc;simp only[h3];exact ⟨_,rfl,h4⟩
    ·cases hc
  ·cases hc
 | block id c =>
  simp only[stepC]at hc;obtain ⟨o,h1,h2⟩:=hs _ _ _ hc;simp only[stepF,h1]
  cases o with
  | ex e s' =>
   cases e with
   | exit id' =>
    simp only at h2 ⊢
    split at h2
    ·rename_i he;rw[if_pos he];exact ⟨_,rfl,h2⟩
    ·rename_i he;rw[if_neg he];exact ⟨_,rfl,h2⟩
   | _=>exact ⟨_,rfl,h2⟩
  | _=>cases h2
 | loop c =>
  simp only[stepC]at hc;obtain ⟨o,h1,h2⟩:=hs _ _ _ hc;simp only[stepF,h1]
  cases o with
  | ex e s' =>
   cases e with
   | normal =>
    obtain ⟨e,s2,h3,h4⟩:=code_ex hs h2;simp only[h3];exact ⟨_,rfl,h4⟩
   | _=>exact ⟨_,rfl,h2⟩
  | _=>cases h2
 | region id os dr =>
  cases dr with
  | true =>
   obtain ⟨e,s',h1,h2⟩:=drawnVC_ok (rd:=rd) (id:=id) hs (k:=fun e s'=>k (.ex e s')) (show drawnVC P self rd os s (fun e s'=>k (.ex e s'))=some r from hc)
   exact ⟨_,by simpa only [stepF,if_true] using h1,h2⟩
  | false =>
   obtain ⟨e,s',h1,h2⟩:=runOpsC_ok hs (k:=fun e s'=>k (.ex e s')) (show runOpsC P self rd os (List.range os.size) s (fun e s'=>k (.ex e s'))=some r from hc)
   exact ⟨_,by simpa only [stepF,Bool.false_eq_true,if_false] using h1,h2⟩
 | rangeFunc g ps assign body =>
  simp only[stepC]at hc
  split at hc
  ·rename_i hk
   simp only[stepF,hk,if_true]
   split at hc
   ·rename_i f first cap hg
    rw[hg];simp only
    split at hc
    ·rename_i hb
     rw[if_pos hb]
     split at hc
     ·simp only[pushK_eq,headsK_eq]at hc
      obtain ⟨o,h1,h2⟩:=hs _ _ _ hc;obtain ⟨o',h3,h4⟩:=endLoopC_ok hs h2
      refine ⟨o',?_,h4⟩
      simp only;rw[← h3,← h1]
      congr 4
      apply Array.ext'
      simp
     ·rename_i l0
      rw[nthO_eq]at hc
      split at hc
      ·rename_i hl
       simp only[pushK_eq,headsK_eq]at hc;obtain ⟨o,h1,h2⟩:=hs _ _ _ hc;obtain ⟨o',h3,h4⟩:=endLoopC_ok hs h2
       refine ⟨o',?_,h4⟩
       simp only[hl];rw[← h3,← h1]
       congr 4
       apply Array.ext'
       simp
      ·cases hc
    ·cases hc
   ·cases hc
  ·cases hc
 | scope c=>cases hc
 | refuse w=>cases hc
theorem stepC_ok (hs:CpsOk self sd):CpsOk (stepC P self) (stepF drawnV P sd):=by
 intro t k r hc
 cases t with
 | code rd c s=>exact stepC_code hs hc
 | call f args h =>
  simp only[stepC]at hc;simp only[stepF,forceL1_eq]
  split at hc
  ·rename_i fn hf
   rw[hf];simp only
   split at hc
   ·rename_i c hcb
    rw[hcb];simp only;rw[headsK_eq]at hc;obtain ⟨o,h1,h2⟩:=hs _ _ _ hc;rw[h1]
    cases o with
    | ex e s =>
     cases e with
     | normal=>exact leaveC_ok hs h2
     | ret=>exact leaveC_ok hs h2
     | panic v=>exact leaveC_ok hs h2
     | _=>cases h2
    | _=>cases h2
   ·cases hc
  ·cases hc
 | dcall f args m h =>
  simp only[stepC]at hc;simp only[stepF,forceL1_eq]
  split at hc
  ·rename_i fn hf
   rw[hf];simp only
   split at hc
   ·rename_i c hcb
    rw[hcb];simp only;rw[headsK_eq]at hc;obtain ⟨e,s,m',h1,h2⟩:=dcodeC_ok hs hc;rw[h1]
    cases e with
    | normal =>
     simp only at h2 ⊢
     split at h2
     ·rename_i he
      rw[if_pos he];obtain ⟨vs,h3,h4⟩:=resC_ok h2;rw[resB_one h3];exact ⟨_,rfl,exitK_ok h4⟩
     ·cases h2
    | ret =>
     simp only at h2 ⊢
     split at h2
     ·rename_i he
      rw[if_pos he];obtain ⟨vs,h3,h4⟩:=resC_ok h2;rw[resB_one h3];exact ⟨_,rfl,exitK_ok h4⟩
     ·cases h2
    | _=>cases h2
   ·cases hc
  ·cases hc
 | round l args h =>
  simp only[stepC]at hc;rw[nthO_eq]at hc;simp only[stepF]
  split at hc
  ·rename_i x t ps assign body D hl
   rw[hl];simp only
   split at hc
   ·rename_i hz
    rw[if_pos hz];rw[headsK_eq]at hc;obtain ⟨o,h1,h2⟩:=hs _ _ _ hc;rw[h1]
    cases o with
    | ex e s1 =>
     cases e with
     | normal =>
      simp only at h2 ⊢;rw[nthO_eq]at h2
      split at h2
      ·rename_i pend1 t1 ps1 a1 b1 D1 hl1
       rw[hl1];simp only;rw[heapK_eq]at h2;obtain ⟨e,s2,h3,h4⟩:=code_ex hs h2;rw[h3];simp only;rw[nthO_eq]at h4
       split at h4
       ·rename_i j q1 q2 t2 ps2 a2 b2 D2 hj hl2
        rw[hj,hl2];rw[heapK_eq]at h4;exact ⟨_,rfl,h4⟩
       ·cases h4
      ·cases h2
     | _=>cases h2
    | _=>cases h2
   ·cases hc
  ·cases hc
def evC (P:Program)(oc:Task→Kn→Option (Option Out)):Nat→SelfC
 | 0,_,_=>none
 | n+1,t,k=>match oc t k with
  | some r=>r
  | none=>stepC P (evC P oc n) t k
def OcOk (oc:Task→Kn→Option (Option Out))(orc:Self):Prop :=
 (∀t k r,oc t k=some (some r)→∃o,orc t=some o∧k o=some r)∧(∀t k,oc t k=none→orc t=none)
theorem evC_ok {oc:Task→Kn→Option (Option Out)}{orc:Self}(ho:OcOk oc orc):∀n,CpsOk (evC P oc n) (iterO orc drawnV P n)
 | 0=>fun _ _ _ h=>by cases h
 | n+1=>by
  intro t k r h;simp only[evC]at h;simp only[iterO]
  split at h
  ·rename_i r' hr
   subst h;obtain ⟨o,h1,h2⟩:=ho.1 _ _ _ hr;rw[h1];exact ⟨_,rfl,h2⟩
  ·rename_i hr
   rw[ho.2 _ _ hr];exact stepC_ok (evC_ok ho n) t k r h
end
inductive AT where
 | leaf (o:Out)
 | no
 | br (b:Bool) (x y:AT)
def AT.run:AT→Kn→Option Out
 | .leaf o,k=>k o
 | .no,_=>none
 | .br b x y,k=>cond b (x.run k) (y.run k)
def AT.out:AT→Option Out
 | .leaf o=>some o
 | .no=>none
 | .br b x y=>cond b x.out y.out
theorem AT.run_some {k:Kn}{r:Out}:∀{a:AT},a.run k=some r→∃o,a.out=some o∧k o=some r
 | .leaf o,h=>⟨o,rfl,h⟩
 | .no,h=>nomatch h
 | .br b x y,h=>by
  cases b with
  | true=>exact AT.run_some (a:=x) h
  | false=>exact AT.run_some (a:=y) h
abbrev Ans:=Task→Option AT
def Ans.self (a:Ans):Self:=fun t=>match a t with
 | some x=>x.out
 | _=>none
def Ans.c (a:Ans):Task→Kn→Option (Option Out):=fun t k=>match a t with
 | some x=>some (x.run k)
 | none=>none
theorem Ans.oc (a:Ans):OcOk a.c a.self:=by
 constructor
 ·intro t k r h
  unfold Ans.c at h;unfold Ans.self
  split at h
  ·rename_i x ha
   simp only[Option.some.injEq]at h;rw[ha];exact AT.run_some h
  ·cases h
 ·intro t k h
  unfold Ans.c at h;unfold Ans.self
  split at h
  ·cases h
  ·rename_i ha;rw[ha]
def LoopFact (P:Program):Task→Out→Prop
 | .code rd (.loop c) s,.ex e s'=>s.h.base≤s.h.bl.length →
  ∀(K:Nat→Prop) (w0:World) (φ:Phi) (w:World) (a:Act) (F:Fence) (n:Nat),Inv K w0 φ s.h.bl w→VRs φ s.t.toArray a.tmps→DRs φ s.d a.defers→FenceOk φ rd F→wpLoopIn F n P c (CodeR K w0 φ e s') a w
 | _,_=>True
def Fact (P:Program)(t:Task)(o:Out):Prop:=TaskOk P t o∧LoopFact P t o
def Known (P:Program)(a:Ans):Prop:=∀t x o,a t=some x→x.out=some o→Fact P t o
theorem Ans.self_iff {a:Ans}{t:Task}{o:Out}:a.self t=some o↔∃x,a t=some x∧x.out=some o:=by
 unfold Ans.self
 split
 ·rename_i x h;rw[h];simp
 ·rename_i h
  constructor
  ·intro h';cases h'
  ·rintro ⟨x,hx,_⟩;exact (h _ hx).elim
theorem Known.selfOk {P:Program}{a:Ans}(h:Known P a):SelfOk P a.self:=fun t o ht=>let ⟨x,h1,h2⟩:=Ans.self_iff.1 ht;(h t x o h1 h2).1
theorem Known.loopOk {P:Program}{a:Ans}(h:Known P a):LoopOk P a.self:=fun _ _ _ _ _ hc hb=>let ⟨x,h1,h2⟩:=Ans.self_iff.1 hc;(h _ x _ h1 h2).2 hb
theorem Known.nothing (P:Program):Known P (fun _=>none):=fun _ _ _ h=>nomatch h
def Ans.or (p a:Ans):Ans:=fun t=>match p t with
 | some r=>some r
 | none=>a t
theorem Known.or {P:Program}{p a:Ans}(hp:Known P p) (ha:Known P a):Known P (p.or a):=by
 intro t x o h;unfold Ans.or at h
 split at h
 ·rename_i r hr;rw[h]at hr;exact hp t x o hr
 ·exact ha t x o h
section
variable {P:Program}(hN:NoNG P) (hm:P.follows .mixedOrders=true)
include hN hm
def evS (P:Program)(a:Ans)(n:Nat):SelfC:=stepC P (evC P a.c n)
theorem Known.step {a:Ans}(hk:Known P a) {n:Nat}{t:Task}{o:Out}(h:evS P a n t some=some o):Fact P t o:=by
 obtain ⟨o',h1,h2⟩:=stepC_ok (evC_ok (P:=P) a.oc n) t some o h
 cases h2
 have hd:DrawnOk P drawnV:=fun self hs rd id os s o h=>drawnV_ok hN hm self hs rd id os s o h
 have hh:=iterO_ok (drawn:=drawnV) hN hd hk.selfOk hk.loopOk n
 refine ⟨step_ok hN hd hh.1 hh.2 t _ h1,?_⟩
 unfold LoopFact
 split
 ·obtain ⟨e1,s1,he,h3⟩:=loop_sound (drawn:=drawnV) hh.1 hh.2 h1
  cases he
  exact fun hb=>(h3 hb).2
 ·trivial
end
def eqCode (c c':Code):Bool:=@decide (c=c') (Classical.propDecidable _)
theorem eqCode_self (c:Code):eqCode c c=true:=by simp [eqCode]
theorem eqCode_eq {c c':Code}(h:eqCode c c'=true):c=c':=by simpa [eqCode] using h
def junkFrom (j:List Value):Nat→Nat→List Value
 | 0,_=>[]
 | m+1,i=>lget j i::junkFrom j m (i+1)
def junkF (n:Nat)(j:List Value):List Value:=junkFrom j n 0
def lo (v:Value):Value:=match v with | .bool b=>.bool b | _=>undef
theorem cl_vr {φ ψ:Phi} {v v':Value}(h:VR φ v v'):VR ψ (lo v) v':=by
 cases h with
 | bool b=>exact .bool b
 | top _ hb=>exact .top _ hb
 | fz hf=>exact .top _ hf.notB
 | _=>exact .top _ rfl
theorem vr_undef {φ ψ:Phi} {v v':Value}(h:VR φ v v') (hn:notB v=true):VR ψ undef v':=by
 cases h with
 | bool b=>cases hn
 | top _ hb=>exact .top _ hb
 | fz hf=>exact .top _ hf.notB
 | _=>exact .top _ rfl
def SlotR (n:Nat)(v v0:Value):Prop:=v0=lo v∨(v0=undef∧notB v=true)∨(v0=v∧scT n v=true)
theorem SlotR.vr {φ:Phi}{n:Nat} {v v0 v':Value}(hs:SlotR n v v0) (h:VR φ v v'):VR (cut φ n) v0 v':=by
 rcases hs with rfl | ⟨rfl,hb⟩ | ⟨rfl,hsc⟩
 ·exact cl_vr h
 ·exact vr_undef h hb
 ·exact scT_cut hsc h
inductive SlotRs (n:Nat):List Value→List Value→Prop
 | nil:SlotRs n [] []
 | cons {v v0:Value} {l l0:List Value} (h:SlotR n v v0) (r:SlotRs n l l0):SlotRs n (v::l) (v0::l0)
theorem SlotRs.get {n:Nat}{l l0:List Value}(h:SlotRs n l l0):∀i:Nat,OR (SlotR n) l[i]? l0[i]?:=by
 induction h with
 | nil=>intro i;simp;exact .none
 | cons h _ ih =>
  intro i
  cases i with
  | zero=>simp only[List.getElem?_cons_zero];exact .some h
  | succ i=>simp only[List.getElem?_cons_succ];exact ih i
theorem SlotRs.vrs {φ:Phi}{n:Nat}{l l0:List Value}{tm:Array Value}(hs:SlotRs n l l0) (h:VRs φ l.toArray tm):VRs (cut φ n) l0.toArray tm:=by
 intro i;have h1:=hs.get i;have h2:=h i
 rw[List.getElem?_toArray]at h2 ⊢
 generalize l[i]?=x at h1 h2
 generalize l0[i]?=y at h1 ⊢
 generalize tm[i]?=z at h2 ⊢
 cases h1 with
 | none=>cases h2;exact .none
 | some h1=>cases h2 with | some h2=>exact .some (h1.vr h2)
def noPanic:Ex→Bool
 | .panic v=>gr v
 | _=>true
theorem ExR.any {φ ψ:Phi}{e:Ex}{x:Exit}(h:ExR φ e x) (hn:noPanic e=true):ExR ψ e x:=by
 cases h with
 | normal=>exact .normal
 | exit id=>exact .exit id
 | goto l=>exact .goto l
 | ret=>exact .ret
 | panic h=>rw[gr_eq hn h];exact .panic (gr_refl hn)
def obKept (n:Nat) (ob ob':Ob):Bool:=(!ob'.live||ob.live)&&(!ob'.rw||ob.rw)&&obSc n ob'
inductive ObsKept (n:Nat):List Ob→List Ob→Prop
 | nil:ObsKept n [] []
 | cons {o o':Ob} {l l':List Ob} (h:obKept n o o'=true) (r:ObsKept n l l'):ObsKept n (o::l) (o'::l')
theorem ObsKept.len {n:Nat} {l l':List Ob}(h:ObsKept n l l'):l'.length=l.length:=by
 induction h with
 | nil=>rfl
 | cons _ _ ih=>simp [ih]
theorem ObsKept.get {n:Nat} {l l':List Ob}(h:ObsKept n l l'):∀{b:Nat} {ob':Ob},l'[b]?=some ob'→∃ob,l[b]?=some ob∧(ob'.live=true→ob.live=true)∧(ob'.rw=true→ob.rw=true)∧obSc n ob'=true:=by
 induction h with
 | nil=>intro b ob' h;simp at h
 | @cons o o' l l' h _ ih =>
  intro b ob' hb
  cases b with
  | zero =>
   simp only[List.getElem?_cons_zero,Option.some.injEq]at hb
   subst hb;simp only[obKept,Bool.and_eq_true,Bool.or_eq_true,Bool.not_eq_true']at h
   refine ⟨o,rfl,fun hl=>?_,fun hr=>?_,h.2⟩
   ·rcases h.1.1 with h1 | h1
    ·rw[hl]at h1;cases h1
    ·exact h1
   ·rcases h.1.2 with h1 | h1
    ·rw[hr]at h1;cases h1
    ·exact h1
  | succ b =>
   simp only[List.getElem?_cons_succ]at hb ⊢
   exact ih hb
section
variable {P:Program}{K:Nat→Prop} {w0 w w':World} {φ φ':Phi}{H0 G H1 X:List Ob}
def RwAt (φ:Phi)(H:List Ob)(k:Nat):Prop:=∃(b:Nat) (ob:Ob) (x:Nat×Nat×Nat),H[b]?=some ob∧ob.rw=true∧φ b=some x∧x.1=k
theorem get_left {b:Nat}{ob:Ob}(h:H0[b]?=some ob):(H0++G)[b]?=some ob:=by
 rw[List.getElem?_append_left (List.getElem?_eq_some_iff.1 h).1];exact h
theorem Inv.narrow (hI:Inv K w0 φ (H0++G) w)(hsc:∀(b:Nat)(ob:Ob),H0[b]?=some ob→obSc H0.length ob=true) :
  Inv (fun k=>k<w.heap.size∧¬RwAt φ H0 k∧φ.z k=none) w (cut φ H0.length) H0 w:=by
 refine ⟨?_,?_,?_,fun _ _=>rfl,fun _ h=>h.1,Nat.le_refl _,rfl,rfl,rfl,fun b hb=>cut_ge hb,hI.frz,?_,fun k hk=>hk.2.2⟩
 ·intro b ob hb hl
  obtain ⟨B,base,tot,h1,h2⟩:=hI.obs b ob (get_left hb) hl
  exact ⟨B,base,tot,(cut_lt (List.getElem?_eq_some_iff.1 hb).1).trans h1,obSc_cut (hsc b ob hb) h2⟩
 ·intro b b' ob ob' x y hne hb hb' hrw hl hx hy
  rw[cut_lt (List.getElem?_eq_some_iff.1 hb).1]at hx
  rw[cut_lt (List.getElem?_eq_some_iff.1 hb').1]at hy
  exact hI.sep b b' ob ob' x y hne (get_left hb) (get_left hb') hrw hl hx hy
 ·intro b ob x hb hrw hx hk
  rw[cut_lt (List.getElem?_eq_some_iff.1 hb).1]at hx
  exact hk.2.1 ⟨b,ob,x,hb,hrw,hx,rfl⟩
 ·intro b ob x hb hrw hx
  rw[cut_lt (List.getElem?_eq_some_iff.1 hb).1]at hx
  exact hI.zsep b ob x (get_left hb) hrw hx
theorem Inv.widen (hI:Inv K w0 φ (H0++G) w)(hF:Inv (fun k=>k<w.heap.size∧¬RwAt φ H0 k∧φ.z k=none) w φ' (H1++X) w')(hle:le (cut φ H0.length) φ')(hk:ObsKept H0.length H0 H1) :
  ∃φ'',le φ φ''∧le (cut φ' H0.length) φ''∧Inv K w0 φ'' (H1++G) w':=by
 have hlen:=hk.len
 refine ⟨⟨fun b=>if b<H0.length then φ' b else φ b,φ'.z⟩,⟨?_,hle.zz⟩,⟨?_,fun _ _ h=>h⟩,?_⟩
 ·intro b x hx
  show (if b<H0.length then φ' b else φ b)=some x
  split
  ·rename_i hlt;exact hle b x ((cut_lt hlt).trans hx)
  ·exact hx
 ·intro b x hx
  show (if b<H0.length then φ' b else φ b)=some x
  split
  ·rename_i hlt;rwa [cut_lt hlt]at hx
  ·rename_i hge;rw[cut_ge (by omega)]at hx;cases hx
 have hφlt:∀{b:Nat},b<H0.length→(if b<H0.length then φ' b else φ b)=φ' b:=fun h=>if_pos h
 have hφge:∀{b:Nat},¬b<H0.length→(if b<H0.length then φ' b else φ b)=φ b:=fun h=>if_neg h
 have hleφ:le φ ⟨fun b=>if b<H0.length then φ' b else φ b,φ'.z⟩:=by
  refine ⟨?_,hle.zz⟩
  intro b x hx
  show (if b<H0.length then φ' b else φ b)=some x
  split
  ·rename_i hlt;exact hle b x ((cut_lt hlt).trans hx)
  ·exact hx
 have hlec:le (cut φ' H0.length) ⟨fun b=>if b<H0.length then φ' b else φ b,φ'.z⟩:=by
  refine ⟨?_,fun _ _ h=>h⟩
  intro b x hx
  show (if b<H0.length then φ' b else φ b)=some x
  split
  ·rename_i hlt;rwa [cut_lt hlt]at hx
  ·rename_i hge;rw[cut_ge (by omega)]at hx;cases hx
 have hcase:∀{b:Nat} {ob:Ob},(H1++G)[b]?=some ob→(b<H0.length∧H1[b]?=some ob)∨(¬b<H0.length∧(H0++G)[b]?=some ob):=by
  intro b ob hb
  by_cases hlt:b<H0.length
  ·rw[List.getElem?_append_left (by omega)]at hb;exact .inl ⟨hlt,hb⟩
  ·rw[List.getElem?_append_right (by omega)]at hb
   refine .inr ⟨hlt,?_⟩
   rw[List.getElem?_append_right (by omega),← hlen];exact hb
 have hold:∀k,k<w.heap.size→¬RwAt φ H0 k→w'.heap[k]?=w.heap[k]?:=fun k h1 h2=>by
  cases hz:φ.z k with
  | none=>exact hF.keep k ⟨h1,h2,hz⟩
  | some o=>rw[hI.frz k o hz,hF.frz k o (hle.zz k o hz)]
 have hwas:∀{b:Nat} {ob:Ob} {x:Nat×Nat×Nat},H1[b]?=some ob→ob.live=true→φ' b=some x→φ b=some x:=by
  intro b ob x hb hl hx;obtain ⟨ob0,h0,hl0,_,_⟩:=hk.get hb;obtain ⟨B,base,tot,h1,_⟩:=hI.obs b ob0 (get_left h0) (hl0 hl)
  have:=hle b _ ((cut_lt (List.getElem?_eq_some_iff.1 h0).1).trans h1)
  rw[hx]at this;rw[h1,this]
 refine ⟨?_,?_,?_,?_,hI.klt,Nat.le_trans hI.size hF.size,hF.os.trans hI.os,hF.tape.trans hI.tape,hF.output.trans hI.output,?_,hF.frz,?_,?_⟩
 ·intro b ob hb hl
  rcases hcase hb with ⟨hlt,h1⟩ | ⟨hge,h1⟩
  ·obtain ⟨B,base,tot,h2,h3⟩:=hF.obs b ob (get_left h1) hl
   obtain ⟨_,_,_,_,hsc⟩:=hk.get h1;exact ⟨B,base,tot,(hφlt hlt).trans h2,(obSc_cut hsc h3).keep hlec rfl⟩
  ·obtain ⟨B,base,tot,h2,h3⟩:=hI.obs b ob h1 hl
   refine ⟨B,base,tot,(hφge hge).trans h2,h3.keep hleφ (hold B (h3.lt hl) ?_)⟩
   rintro ⟨b0,ob0,x,h4,h5,h6,h7⟩
   have hb0:=(List.getElem?_eq_some_iff.1 h4).1
   exact hI.sep b0 b ob0 ob x _ (by omega) (get_left h4) h1 h5 hl h6 h2 h7
 ·intro b b' ob ob' x y hne hb hb' hrw hl hx hy
  rcases hcase hb with ⟨hlt,h1⟩ | ⟨hge,h1⟩
  ·simp only[hφlt hlt]at hx
   obtain ⟨ob0,h0,_,hrw0,_⟩:=hk.get h1;have hx0:=hwas h1 (Ob.live_of_rw hrw) hx
   rcases hcase hb' with ⟨hlt',h2⟩ | ⟨hge',h2⟩
   ·simp only[hφlt hlt']at hy
    exact hF.sep b b' ob ob' x y hne (get_left h1) (get_left h2) hrw hl hx hy
   ·simp only[hφge hge']at hy
    exact hI.sep b b' ob0 ob' x y hne (get_left h0) h2 (hrw0 hrw) hl hx0 hy
  ·simp only[hφge hge]at hx
   rcases hcase hb' with ⟨hlt',h2⟩ | ⟨hge',h2⟩
   ·simp only[hφlt hlt']at hy
    obtain ⟨ob0,h0,hl0,_,_⟩:=hk.get h2;exact hI.sep b b' ob ob0 x y hne h1 (get_left h0) hrw (hl0 hl) hx (hwas h2 hl hy)
   ·simp only[hφge hge']at hy
    exact hI.sep b b' ob ob' x y hne h1 h2 hrw hl hx hy
 ·intro b ob x hb hrw hx
  rcases hcase hb with ⟨hlt,h1⟩ | ⟨hge,h1⟩
  ·simp only[hφlt hlt]at hx
   obtain ⟨ob0,h0,_,hrw0,_⟩:=hk.get h1;exact hI.prot b ob0 x (get_left h0) (hrw0 hrw) (hwas h1 (Ob.live_of_rw hrw) hx)
  ·simp only[hφge hge]at hx
   exact hI.prot b ob x h1 hrw hx
 ·intro k hkk
  have h1:=hI.klt k hkk;have h2:=hI.size
  rw[hold k (by omega) ?_]
  ·exact hI.keep k hkk
  ·rintro ⟨b0,ob0,x,h4,h5,h6,h7⟩
   exact hI.prot b0 ob0 x (get_left h4) h5 h6 (h7 ▸ hkk)
 ·intro b hb
  simp only[List.length_append]at hb
  have hge:¬b<H0.length:=by omega
  simp only[hφge hge]
  exact hI.top b (by simp only[List.length_append];omega)
 ·intro b ob x hb hrw hx
  rcases hcase hb with ⟨hlt,h1⟩ | ⟨hge,h1⟩
  ·simp only[hφlt hlt]at hx
   exact hF.zsep b ob x (get_left h1) hrw hx
  ·simp only[hφge hge]at hx
   obtain ⟨B,base,tot,h2,h3⟩:=hI.obs b ob h1 (Ob.live_of_rw hrw);rw[h2]at hx;cases hx
   refine hF.zk B ⟨h3.lt (Ob.live_of_rw hrw),?_,hI.zsep b ob _ h1 hrw h2⟩
   rintro ⟨b0,ob0,y,h4,h5,h6,h7⟩
   have hb0:=(List.getElem?_eq_some_iff.1 h4).1
   exact hI.sep b0 b ob0 ob y _ (by omega) (get_left h4) h1 h5 (Ob.live_of_rw hrw) h6 h2 h7
 ·intro k hkk
  have h1:=hI.klt k hkk;have h2:=hI.size
  refine hF.zk k ⟨by omega,?_,hI.zk k hkk⟩
  rintro ⟨b0,ob0,x,h4,h5,h6,h7⟩
  exact hI.prot b0 ob0 x (get_left h4) h5 h6 (h7 ▸ hkk)
theorem Fact.forget {c:Code}{t t0 L T:List Value}{base base1:Nat}{wr wr1:List Nat}{e:Ex}
  (hf:Fact P (.code none c ⟨t0,[],⟨H0,base,wr⟩⟩) (.ex e ⟨L,[],⟨H1++X,base1,wr1⟩⟩)) (hb:base≤H0.length) (hk:ObsKept H0.length H0 H1) (hsc:(H0.all (obSc H0.length))=true)
  (ht:SlotRs H0.length t t0) (hT:SlotRs H0.length L T) (he:noPanic e=true) :
  Fact P (.code none c ⟨t,[],⟨H0++G,base,wr⟩⟩) (.ex e ⟨T,[],⟨H1++G,base,wr1⟩⟩):=by
 have hlen:=hk.len;obtain ⟨hp,hh⟩:=hf.1 hb
 have hsc':∀(b:Nat) (ob:Ob),H0[b]?=some ob→obSc H0.length ob=true:=fun b ob hb=>by
  rw[List.all_eq_true]at hsc;exact hsc ob (List.mem_of_getElem? hb)
 have key:∀{K:Nat→Prop} {w0 w:World} {φ:Phi} {x:Exit} {a':Act} {w':World},Inv K w0 φ (H0++G) w→CodeR (fun k=>k<w.heap.size∧¬RwAt φ H0 k∧φ.z k=none) w (cut φ H0.length) e ⟨L,[],⟨H1++X,base1,wr1⟩⟩ x a' w' →
   CodeR K w0 φ e ⟨T,[],⟨H1++G,base,wr1⟩⟩ x a' w':=by
  rintro K w0 w φ x a' w' hI ⟨φ',hle,hx,ht',hd',hI'⟩
  obtain ⟨φ'',h1,h2,h3⟩:=hI.widen hI' hle hk
  refine ⟨φ'',h1,hx.any he,fun i=>(hT.vrs ht' i).mono fun _ _ h=>h.mono h2,?_,h3⟩
  have hd0:a'.defers=[]:=by
   have:DRs φ' [] a'.defers:=hd'
   generalize a'.defers=l at this
   cases this;rfl
  rw[hd0];exact .nil
 have dnil:∀{φ ψ:Phi} {l:List Deferred},DRs φ [] l→DRs ψ [] l:=fun h=>by cases h;exact .nil
 refine ⟨fun hb'=>⟨⟨rfl,?_,?_,?_⟩,?_⟩,?_⟩
 ·show (H0++G).length≤(H1++G).length
  simp [hlen]
 ·intro b hlt hn
  obtain ⟨h1,h2⟩:=hp.same b hlt hn
  refine ⟨h1,?_⟩
  have hlt':b<H0.length:=Nat.lt_of_lt_of_le hlt hb;simp only at h2 ⊢
  rw[List.getElem?_append_left (by omega)]at h2 ⊢
  rw[List.getElem?_append_left hlt'];exact h2
 ·intro b ob hx hl hr
  simp only at hx ⊢
  by_cases hlt:b<H0.length
  ·rw[List.getElem?_append_left (by omega)]at hx
   exact get_left (hp.ro b ob (get_left hx) hl hr)
  ·rw[List.getElem?_append_right (by omega)]at hx
   rw[List.getElem?_append_right (by omega),← hlen];exact hx
 ·intro K w0 φ w a F n hI hta hd hF
  exact wpIn_mono (hh _ w (cut φ H0.length) w a F n (hI.narrow hsc') (ht.vrs hta) (dnil hd) hF) fun x a' w' h=>key hI h
 ·cases c with
  | loop c =>
   intro hb' K w0 φ w a F n hI hta hd hF;have hl:=hf.2 hb
   exact wpLoopIn_mono (hl _ w (cut φ H0.length) w a F n (hI.narrow hsc') (ht.vrs hta) (dnil hd) hF) fun x a' w' h=>key hI h
  | _=>trivial
end
def sets (t:List Value):List (Nat×Value)→List Value
 | []=>t
 | (k,v)::r=>sets (lset t k v) r
theorem slotRs_lo (n:Nat):∀L:List Value,SlotRs n L (L.map lo)
 | []=>.nil
 | _::L=>.cons (.inl rfl) (slotRs_lo n L)
theorem slotRs_set {n:Nat}{v:Value}(hv:scT n v=true):∀{L T:List Value},SlotRs n L T→∀k,L[k]?=some v→SlotRs n L (lset T k v)
 | _,_,.nil,k,h=>by simp at h
 | _,_,.cons (l:=L) (l0:=T) h r,0,hk=>by
  simp only[List.getElem?_cons_zero,Option.some.injEq]at hk
  subst hk;exact .cons (.inr (.inr ⟨rfl,hv⟩)) r
 | _,_,.cons (l:=L) (l0:=T) h r,k+1,hk=>by
  simp only[List.getElem?_cons_succ]at hk
  exact .cons h (slotRs_set hv r k hk)
theorem slotRs_sets {n:Nat}{L:List Value}{known:List (Nat×Value)}:∀{T:List Value},SlotRs n L T→(∀kv∈known,L[kv.1]?=some kv.2∧scT n kv.2=true)→SlotRs n L (sets T known):=by
 induction known with
 | nil=>intro T h _;exact h
 | cons kv r ih =>
  intro T h hk;have h1:=hk kv (List.mem_cons_self ..)
  exact ih (slotRs_set h1.2 h kv.1 h1.1) fun kv hm=>hk kv (List.mem_cons_of_mem _ hm)
theorem junkFrom_eq (j:List Value):∀(m i:Nat),i+m=j.length→junkFrom j m i=j.drop i
 | 0,i,h=>by simp only[junkFrom];rw[List.drop_eq_nil_of_le (by omega)]
 | m+1,i,h=>by
  simp only[junkFrom]
  rw[junkFrom_eq j m (i+1) (by omega),lget_eq,Array.getD_eq_getD_getElem?,List.getElem?_toArray,List.getElem?_eq_getElem (by omega)]
  simp only[Option.getD_some]
  exact (List.drop_eq_getElem_cons (by omega)).symm
theorem junkF_eq {n:Nat}{j:List Value}(h:j.length=n):junkF n j=j:=by
 unfold junkF
 rw[junkFrom_eq j n 0 (by omega)];rfl
theorem slotRs_known {n m:Nat}{L:List Value}{known:List (Nat×Value)}(hl:L.length=m) (hk:∀kv∈known,L[kv.1]?=some kv.2∧scT n kv.2=true):SlotRs n L (sets (junkF m (L.map lo)) known):=by
 rw[junkF_eq (by simpa using hl)]
 exact slotRs_sets (slotRs_lo n L) hk
def loopsIn:Code→List Code
 | .seq a b=>loopsIn a++loopsIn b
 | .cond _ a b=>loopsIn a++loopsIn b
 | .block _ c=>loopsIn c
 | .loop c=>c::loopsIn c
 | .rangeFunc _ _ a b=>loopsIn a++loopsIn b
 | _=>[]
def theLoop (P:Program)(f k:Nat):Code :=
 match P.funcs[f]? with
 | some fn=>(match fn.body with
  | some c=>(match (loopsIn c)[k]? with | some c=>c | none=>.skip)
  | none=>.skip)
 | none=>.skip
def firstReg:Code→Nat
 | .seq a _=>firstReg a
 | .block _ c=>firstReg c
 | .loop c=>firstReg c
 | .region id _ _=>id
 | _=>9999
def loopEnd (n:Nat)(e:Ex)(known:List (Nat×Value))(h:Hp)(j:List Value):AT:=.leaf (.ex e { t:=sets (junkF n j) known,d:=[],h:=h })
def sumK (n0 N:Nat)(pick:Ex→List Nat):Kn
 | .ex e s=>(match s.d with
  | []=>(match lenIs s.t N with
   | true=>some (.ex e { t:=(pick e).map (lget s.t),d:=[],h:={ bl:=s.h.bl.take n0,base:=N,wr:=s.h.wr } })
   | false=>none)
  | _=>none)
 | _=>none
def notU (v:Value):Bool:=match v with | .tuple _=>false | _=>true
theorem getElem_of_lget {L:List Value}{k:Nat}{v:Value}(h:lget L k=v) (hn:notU v=true):L[k]?=some v:=by
 rw[lget_eq,Array.getD_eq_getD_getElem?,List.getElem?_toArray]at h
 cases hc:L[k]? with
 | none=>rw[hc]at h;subst h;cases hn
 | some u=>rw[hc]at h;simp at h;rw[h]
theorem wrap64_id {x:Int}(h1:-9223372036854775808≤x) (h2:x<9223372036854775808):IntKind.i64.wrap x=x:=by
 unfold IntKind.wrap
 simp [IntKind.bits,IntKind.signed]
 split<;>omega
theorem sc1_g0 {n:Nat}{v:Value}(h:g0 v=true):sc1 n v=true:=by
 cases v with
 | pointer a=>cases a with | none=>rfl | some a=>simp [g0]at h
 | slice a l c=>cases a with | none=>exact h | some a=>simp [g0]at h
 | map a=>cases a with | none=>rfl | some a=>simp [g0]at h
 | func f a b=>simp [g0]at h
 | _=>first | rfl | (simp [g0]at h)
theorem zip_same {α:Type}{x y:α}:∀{l:List α},(x,y)∈l.zip l→x=y
 | [],h=>by simp at h
 | z::r,h=>by
  simp only[List.zip_cons_cons,List.mem_cons]at h
  rcases h with h | h
  ·cases h;rfl
  ·exact zip_same h
section
variable {P:Program}(hN:NoNG P) (hm:P.follows .mixedOrders=true)
include hN hm
end
def fz0:Value→Bool
 | .func (.via 0 ⟨[]⟩ 0 _) _ _=>true
 | v=>g0 v
def allFz (c:Array Value):Bool:=c.toList.all fz0
def frz1 (m z:Nat)(bl:List Ob)(v:Value)(k:Value→Option Out):Option Out :=
 match v with
 | .slice (some ⟨b,off,none⟩) len sz =>
  match Nat.ble m b,nthO bl b with
  | true,some (.cells c false)=>cond (allFz c&&decide (off+len*sz≤c.size)) (k (lstV c off len sz)) none
  | _,_=>none
 | .pointer (some ⟨b,off,none⟩) =>
  match Nat.ble m b,nthO bl b with
  | true,some (.cells c false)=>cond (allFz c) (k (dptV c off)) none
  | _,_=>none
 | .slice none 0 0=>k (lstV ⟨[]⟩ 0 0 z)
 | v=>if fz0 v then k v else none
def zOf (z:Nat):Nat:=cond (Nat.blt z 100) z (z % 100)
def zNx (z:Nat):Nat:=cond (Nat.blt z 100) z (z / 100)
def frzL (m:Nat):Nat→List Ob→List Value→(List Value→Option Out)→Option Out
 | _,_,[],k=>k []
 | z,bl,v::r,k=>frz1 m (zOf z) bl v fun u=>frzL m (zNx z) bl r fun r=>k (u::r)
def frzA (m z:Nat)(bl:List Ob)(v:Value)(k:Value→Option Out):Option Out :=
 match v with
 | .agg ⟨l⟩=>frzL m z bl l fun l=>k (.agg ⟨l⟩)
 | .iface t v=>if gA v then k (.iface t v) else none
 | .func (.func g) ⟨l⟩ ⟨n⟩=>frzL m z bl l fun l=>frzL m z bl n fun n=>k (.func (.func g) ⟨l⟩ ⟨n⟩)
 | v=>frz1 m z bl v k
def frzT (bl:List Ob):List Nat→List Value→(List Value→Option Out)→Option Out
 | _,[],k=>k []
 | zs,v::r,k=>frzA 0 (zs.headD 0) bl v fun v=>frzT bl zs.tail r fun r=>k (v::r)
def frzV (zs:List Nat)(bl:List Ob)(v:Value)(k:Value→Option Out):Option Out :=
 match v with
 | .tuple ⟨x::l⟩=>frzT bl zs (x::l) fun l=>k (.tuple ⟨l⟩)
 | v=>frzA 0 (zs.headD 0) bl v k
def frzK (zs:List Nat):Kn
 | .ret v h=>frzV zs h.bl v fun v=>some (.ret v ⟨[],0,[]⟩)
 | _=>none
structure Made (m:Nat) (z:Nat→Option Obj) (φ:Phi) (X:List Ob) (w:World):Prop where
 le:∀B o,φ.z B=some o→z B=some o
 obs:∀b c,X[b]?=some (.cells c false)→m≤b→∃B base tot C el fr,φ b=some (B,base,tot)∧z B=some (.cells C el fr)∧base+c.size≤C.size∧(∀(i:Nat) (v:Value),c[i]?=some v→∃v',C[base+i]?=some v'∧VR φ v v')
section
variable {K:Nat→Prop}{w0 w:World} {φ:Phi}{X:List Ob}{z:Nat→Option Obj}{m:Nat}
theorem fz0_fr (h:Made m z φ X w) {v v':Value}(hf:fz0 v=true) (hv:VR φ v v'):FR z v v':=by
 unfold fz0 at hf
 split at hf
 ·cases hv with
  | fn hg=>cases hg
  | fz hh=>exact hh.mono h.le
 ·rw[g0_eq hf hv];exact .gnd hf
theorem cells_fr (h:Made m z φ X w) {c C:Array Value}{base:Nat}(hc:allFz c=true) (h2:∀(i:Nat) (v:Value),c[i]?=some v→∃v',C[base+i]?=some v'∧VR φ v v') :
  ∀i,i<c.size→FR z (c.getD i undef) (C.getD (base+i) undef):=by
 intro i hi
 have h1:c[i]?=some c[i]:=Array.getElem?_eq_getElem hi
 obtain ⟨v',h3,h4⟩:=h2 i _ h1;rw[Array.getD_eq_getD_getElem?,Array.getD_eq_getD_getElem?,h1,h3];unfold allFz at hc;rw[List.all_eq_true]at hc
 exact fz0_fr h (hc _ (by rw[Array.mem_toList_iff];exact Array.mem_of_getElem? h1)) h4
theorem frz1_ok {y:Nat}(h:Made m z φ X w) {v v':Value}{k:Value→Option Out}{r:Out}(hk:frz1 m y X v k=some r) (hv:VR φ v v'):∃u,FR z u v'∧k u=some r:=by
 unfold frz1 at hk
 split at hk
 ·rename_i b off len sz
  rw[nthO_eq]at hk
  split at hk
  ·rename_i c hmb hb
   obtain ⟨h1,h2⟩:=cond_some hk;simp only[Bool.and_eq_true,decide_eq_true_eq]at h1;obtain ⟨B,base,tot,C,el,fr,h3,hz,h8,h6⟩:=h.obs b _ hb (Nat.le_of_ble_eq_true hmb)
   cases hv with
   | sliceZ _ a' k'=>exact ⟨_,.lstZ _ _ _ _,h2⟩
   | slice hφ hl hc =>
    rw[h3]at hφ;cases hφ;exact ⟨_,.lst hz h8 (cells_fr h h1.1 h6) hl h1.2,h2⟩
  ·cases hk
 ·rename_i b off
  rw[nthO_eq]at hk
  split at hk
  ·rename_i c hmb hb
   obtain ⟨h1,h2⟩:=cond_some hk;obtain ⟨B,base,tot,C,el,fr,h3,hz,h8,h6⟩:=h.obs b _ hb (Nat.le_of_ble_eq_true hmb)
   cases hv with
   | ptr hφ =>
    rw[h3]at hφ;cases hφ;exact ⟨_,.dpt hz h8 (cells_fr h h1 h6),h2⟩
  ·cases hk
 ·cases hv
  exact ⟨_,.lstZ _ _ _ _,hk⟩
 ·split at hk
  ·rename_i hf
   exact ⟨_,fz0_fr h hf hv,hk⟩
  ·cases hk
inductive FRl (z:Nat→Option Obj):List Value→List Value→Prop
 | nil:FRl z [] []
 | cons {v v':Value} {l l':List Value} (h:FR z v v') (r:FRl z l l'):FRl z (v::l) (v'::l')
theorem FRl.agg {z:Nat→Option Obj} {l l':List Value}(h:FRl z l l'):l.length=l'.length∧∀i,FR z ((⟨l⟩:Array Value).getD i undef) ((⟨l'⟩:Array Value).getD i undef)∨l.length≤i:=by
 induction h with
 | nil=>exact ⟨rfl,fun i=>.inr (Nat.zero_le _)⟩
 | cons h _ ih =>
  refine ⟨by simp [ih.1],fun i=>?_⟩
  cases i with
  | zero=>exact .inl (by simpa [Array.getD_eq_getD_getElem?] using h)
  | succ i =>
   rcases ih.2 i with h1 | h1
   ·exact .inl (by simpa [Array.getD_eq_getD_getElem?] using h1)
   ·exact .inr (by simp;omega)
theorem FRl.fr {z:Nat→Option Obj} {l l':List Value}(h:FRl z l l'):FR z (.agg ⟨l⟩) (.agg ⟨l'⟩):=by
 refine .agg (by simpa using h.agg.1) fun i hi=>?_
 rcases h.agg.2 i with h1 | h1
 ·exact h1
 ·simp at hi;omega
theorem frzL_ok (h:Made m z φ X w) {r:Out}:∀{y:Nat} {l l':List Value}{k:List Value→Option Out},frzL m y X l k=some r→VRl φ l l'→∃u,FRl z u l'∧k u=some r
 | _,[],_,k,hk,hv=>by cases hv;exact ⟨[],.nil,hk⟩
 | _,v::l,_,k,hk,hv=>by
  cases hv with
  | cons hv hr =>
   obtain ⟨u,h1,h2⟩:=frz1_ok h hk hv;obtain ⟨us,h3,h4⟩:=frzL_ok h h2 hr;exact ⟨u::us,.cons h1 h3,h4⟩
theorem frzA_ok {ψ:Phi}{y:Nat}(h:Made m ψ.z φ X w) {v v':Value}{k:Value→Option Out}{r:Out}(hk:frzA m y X v k=some r) (hv:VR φ v v'):∃u,VR ψ u v'∧k u=some r:=by
 unfold frzA at hk
 split at hk
 ·rename_i l
  obtain ⟨⟨ys⟩,rfl,hs⟩:=hv.agg_inv;obtain ⟨us,h1,h2⟩:=frzL_ok h hk hs.toList;exact ⟨_,h1.fr.vr,h2⟩
 ·split at hk
  ·rename_i hg
   cases hv with
   | iface _ hv=>rw[gA_eq hg hv];exact ⟨_,.iface _ (gA_refl hg),hk⟩
  ·cases hk
 ·rename_i g l n
  cases hv with
  | fn hg h1 h2 h3 h4 =>
   obtain ⟨us,k1,k2⟩:=frzL_ok h hk (VRs.toList (VRs.of h1 h2));obtain ⟨ws,k3,k4⟩:=frzL_ok h k2 (VRs.toList (VRs.of h3 h4))
   have hh:∀{us:List Value} {ys:Array Value},FRl ψ.z us ys.toList→(⟨us⟩:Array Value).size=ys.size∧∀i,i<(⟨us⟩:Array Value).size→FR ψ.z ((⟨us⟩:Array Value).getD i undef) (ys.getD i undef):=by
    intro us ys hf;obtain ⟨ys⟩:=ys
    refine ⟨by simpa using hf.agg.1,fun i hi=>?_⟩
    rcases hf.agg.2 i with h5 | h5
    ·exact h5
    ·simp at hi;omega
   exact ⟨_,(FR.fn (hh k1).1 (hh k1).2 (hh k3).1 (hh k3).2).vr,k4⟩
 ·obtain ⟨u,h1,h2⟩:=frz1_ok h hk hv
  exact ⟨u,h1.vr,h2⟩
theorem frzT_ok {ψ:Phi}(h:Made 0 ψ.z φ X w) {r:Out}:∀{zs:List Nat} {l l':List Value}{k:List Value→Option Out},frzT X zs l k=some r→VRl φ l l'→∃u,VRl ψ u l'∧k u=some r
 | _,[],_,k,hk,hv=>by cases hv;exact ⟨[],.nil,hk⟩
 | _,v::l,_,k,hk,hv=>by
  cases hv with
  | cons hv hr =>
   obtain ⟨u,h1,h2⟩:=frzA_ok h hk hv;obtain ⟨us,h3,h4⟩:=frzT_ok h h2 hr;exact ⟨u::us,.cons h1 h3,h4⟩
theorem VRl.vrs {l l':List Value}(h:VRl φ l l'):VRs φ ⟨l⟩ ⟨l'⟩:=by
 induction h with
 | nil=>exact VRs.nil φ
 | cons h _ ih =>
  intro i
  cases i with
  | zero=>simpa using OR.some h
  | succ i=>have:=ih i;simpa using this
theorem frzV_ok {ψ:Phi}{zs:List Nat}(h:Made 0 ψ.z φ X w) {v v':Value}{k:Value→Option Out}{r:Out}(hk:frzV zs X v k=some r) (hv:VR φ v v'):∃u,VR ψ u v'∧k u=some r:=by
 unfold frzV at hk
 split at hk
 ·rename_i x l
  obtain ⟨⟨ys⟩,rfl,hs⟩:=hv.tuple_inv rfl;obtain ⟨us,h1,h2⟩:=frzT_ok h hk hs.toList;exact ⟨_,h1.vrs.tuple,h2⟩
 ·exact frzA_ok h hk hv
open Classical in
def zF (φ:Phi)(X:List Ob)(m:Nat)(w:World):Nat→Option Obj:=fun B=>if ∃b ob x,m≤b∧X[b]?=some ob∧ob.rw=true∧φ b=some x∧x.1=B then w.heap[B]? else φ.z B
theorem zF_made (hF:Inv K w0 φ X w)(m:Nat):Made m (zF φ X m w) φ X w:=by
 refine ⟨fun B o hB=>?_,fun b c hb hmb=>?_⟩
 ·unfold zF
  split
  ·exact hF.frz B o hB
  ·exact hB
 ·obtain ⟨B,base,tot,h3,C,el,fr,h5,h6,h7⟩:=hF.obs b _ hb rfl
  obtain ⟨h8,h9,_⟩:=h7 rfl
  refine ⟨B,base,tot,C,el,fr,h3,?_,by omega,h6⟩
  unfold zF;rw[if_pos ⟨b,_,_,hmb,hb,rfl,h3,rfl⟩];exact h5
theorem zF_k (hF:Inv K w0 φ X w)(m:Nat) {k:Nat}(hk:K k):zF φ X m w k=none:=by
 unfold zF;rw[if_neg]
 ·exact hF.zk k hk
 ·rintro ⟨b,ob,x,_,h2,h3,h4,rfl⟩
  exact hF.prot b ob x h2 h3 h4 hk
theorem Inv.freeze (hF:Inv K w0 φ X w) {H1:List Ob}{k:Nat}(hH:∀(b:Nat) (ob:Ob),H1[b]?=some ob→X[b]?=some ob∧obSc H1.length ob=true) :
  Inv K w0 ⟨fun b=>if b<H1.length+k then φ b else none,zF φ X H1.length w⟩ (H1++List.replicate k .dead) w:=by
 have hm:=zF_made hF H1.length
 have hget:∀{b:Nat} {ob:Ob},(H1++List.replicate k .dead)[b]?=some ob→ob.live=true→b<H1.length∧X[b]?=some ob∧obSc H1.length ob=true:=by
  intro b ob hb hl
  rcases Nat.lt_or_ge b H1.length with h | h
  ·rw[List.getElem?_append_left h]at hb
   exact ⟨h,hH b ob hb⟩
  ·rw[List.getElem?_append_right h,List.getElem?_replicate]at hb
   split at hb
   ·simp only[Option.some.injEq]at hb;subst hb;cases hl
   ·cases hb
 have hlec:Gi.le (cut φ H1.length) ⟨fun b=>if b<H1.length+k then φ b else none,zF φ X H1.length w⟩:=by
  refine ⟨fun b x hx=>?_,hm.le⟩
  rcases Nat.lt_or_ge b H1.length with h | h
  ·rw[cut_lt h]at hx
   show (if b<H1.length+k then φ b else none)=some x
   rw[if_pos (by omega)];exact hx
  ·rw[cut_ge h]at hx;cases hx
 have hx:∀{b:Nat} {x:Nat×Nat×Nat},b<H1.length→(⟨fun b=>if b<H1.length+k then φ b else none,zF φ X H1.length w⟩:Phi) b=some x→φ b=some x:=by
  intro b x hb h
  have h':(if b<H1.length+k then φ b else none)=some x:=h
  rwa [if_pos (by omega)]at h'
 refine ⟨?_,?_,?_,hF.keep,hF.klt,hF.size,hF.os,hF.tape,hF.output,?_,?_,?_,fun k hk=>zF_k hF _ hk⟩
 ·intro b ob hb hl
  obtain ⟨h1,h2,h3⟩:=hget hb hl;obtain ⟨B,base,tot,h4,h5⟩:=hF.obs b ob h2 hl;exact ⟨B,base,tot,hlec b _ ((cut_lt h1).trans h4),(obSc_cut h3 h5).keep hlec rfl⟩
 ·intro b b' ob ob' x y hne hb hb' hrw hl hx1 hy1
  obtain ⟨h1,h2,_⟩:=hget hb (Ob.live_of_rw hrw);obtain ⟨h3,h4,_⟩:=hget hb' hl;exact hF.sep b b' ob ob' x y hne h2 h4 hrw hl (hx h1 hx1) (hx h3 hy1)
 ·intro b ob x hb hrw hx1
  obtain ⟨h1,h2,_⟩:=hget hb (Ob.live_of_rw hrw);exact hF.prot b ob x h2 hrw (hx h1 hx1)
 ·intro b hb
  simp only[List.length_append,List.length_replicate]at hb
  show (if b<H1.length+k then φ b else none)=none
  rw[if_neg (by omega)]
 ·intro B o hB
  have hB':zF φ X H1.length w B=some o:=hB;unfold zF at hB'
  split at hB'
  ·exact hB'
  ·exact hF.frz B o hB'
 ·intro b ob x hb hrw hx1
  obtain ⟨h1,h2,_⟩:=hget hb (Ob.live_of_rw hrw);have hx2:=hx h1 hx1
  show zF φ X H1.length w x.1=none
  unfold zF;rw[if_neg]
  ·exact hF.zsep b ob x h2 hrw hx2
  ·rintro ⟨b',ob',x',k1,k2,k3,k4,k5⟩
   exact hF.sep b b' ob ob' x x' (by omega) h2 k2 hrw (Ob.live_of_rw k3) hx2 k4 k5.symm
end
section
variable {P:Program}
def pureA (v:Value):Bool:=scT 0 v
theorem Fact.lift {zs:List Nat}{f:FuncId}{args:Array Value}{v u:Value}{h1:Hp}(hf:Fact P (.call f args ⟨[],0,[]⟩) (.ret v h1)) (hfz:frzK zs (.ret v h1)=some (.ret u ⟨[],0,[]⟩))
  (ha:args.toList.all pureA=true) (h:Hp):Fact P (.call f args h) (.ret u h):=by
 obtain ⟨_,hh⟩:=hf.1 (Nat.le_refl _)
 refine ⟨fun hb=>⟨Pres.refl _,?_⟩,trivial⟩
 intro K w0 φ w args' n hI hA;have hI':Inv K w0 φ ([]++h.bl) w:=hI
 have hN:=hI'.narrow (H0:=[]) (fun b ob h=>by simp at h)
 have hA1:VRs (cut φ ([]:List Ob).length) args args':=VRs.of hA.size fun i hi=>scT_cut (all_getD (p:=pureA) ha hi) (hA.getD i)
 refine (hh _ w _ w args' n hN hA1).mono ?_
 intro e w' he
 cases e with
 | returned v' =>
  obtain ⟨φ',hle,hv',hF⟩:=he
  have hfz':frzV zs h1.bl v (fun v=>some (.ret v ⟨[],0,[]⟩))=some (.ret u ⟨[],0,[]⟩):=hfz
  have hZ:=hF.freeze (H1:=[]) (k:=0) (fun b ob h=>by simp at h)
  obtain ⟨u',k1,k2⟩:=frzV_ok (ψ:=⟨fun b=>if b<([]:List Ob).length+0 then φ' b else none,zF φ' h1.bl 0 w'⟩) (zF_made hF 0) hfz' hv'
  simp only[Option.some.injEq,Out.ret.injEq,and_true]at k2;subst k2
  have hle2:le (cut φ ([]:List Ob).length) ⟨fun b=>if b<([]:List Ob).length+0 then φ' b else none,zF φ' h1.bl 0 w'⟩:=by
   refine ⟨fun b x hx=>?_,fun B o hB=>(zF_made hF 0).le B o (hle.zz B o hB)⟩
   rw[cut_ge (show ([]:List Ob).length≤b from Nat.zero_le b)]at hx;cases hx
  obtain ⟨φ'',q1,q2,q3⟩:=hI'.widen (H1:=[]) (X:=[]) hZ hle2 .nil
  refine ⟨φ'',q1,?_,q3⟩
  have hc:cut ⟨fun b=>if b<([]:List Ob).length+0 then φ' b else none,zF φ' h1.bl ([]:List Ob).length w'⟩ ([]:List Ob).length=⟨fun b=>if b<([]:List Ob).length+0 then φ' b else none,zF φ' h1.bl 0 w'⟩:=by
   unfold cut
   simp
  rw[hc]at q2;exact k1.mono q2
 | panicked ch=>exact he.elim
 | outgrown=>exact he.elim
def zAll (w:World):Phi:=⟨fun _=>none,fun B=>w.heap[B]?⟩
theorem inv_all (w:World):Inv (fun _=>False) w (zAll w) [] w :=
 ⟨fun b ob h=>by simp at h,fun b b' ob ob' x y _ h=>by simp at h,fun b ob x h=>by simp at h,fun _ h=>h.elim,fun _ h=>h.elim,Nat.le_refl _,rfl,rfl,rfl,fun _ _=>rfl,fun _ _ h=>h,fun b ob x h=>by simp at h,fun _ h=>h.elim⟩
theorem calls_frozen {w:World}{f:FuncId} {args args':Array Value}{v:Value} {h':Hp}(hf:Fact P (.call f args ⟨[],0,[]⟩) (.ret v h')) (hg:gr v=true) (hA:VRs (zAll w) args args') :
  Calls P f args' w fun e w'=>e=.returned v∧Below w.heap.size w w':=by
 obtain ⟨_,hh⟩:=hf.1 (Nat.le_refl _)
 refine callsIn_wide.1 ((hh _ w (zAll w) w args' 0 (inv_all w) hA).mono ?_)
 intro e w' he
 cases e with
 | returned v' =>
  obtain ⟨φ',hle,hv,hI⟩:=he
  refine ⟨by rw[gr_eq hg hv],hI.os,hI.tape,hI.output,hI.size,fun k hk=>?_⟩
  have h1:(zAll w).z k=some w.heap[k]:=by show w.heap[k]?=_;rw[Array.getElem?_eq_getElem hk]
  rw[hI.frz k _ (hle.zz k _ h1),Array.getElem?_eq_getElem hk]
 | panicked ch=>exact he.elim
 | outgrown=>exact he.elim
end
inductive RT (A:Type) where
 | leaf (a:A)
 | no
 | br (b:Bool) (x y:RT A)
 | sw (b b':Bool) (h:b=b') (x y:RT A)
def mq {R:Type}(x:Int)(y:RT R):RT R:=.br (decide (x=x)) y .no
theorem bq {α β:Type}{o:Option α}{f:α→Option β}{r:β}(h:o.bind f=some r):∃a,o=some a∧f a=some r:=Option.bind_eq_some_iff.1 h
section
variable {A:Type}
def RT.val:RT A→Option A
 | .leaf a=>some a
 | .no=>none
 | .br b x y=>cond b x.val y.val
 | .sw _ b _ x y=>cond b x.val y.val
def RT.out (enc:A→Out):RT A→Option Out
 | .leaf a=>some (enc a)
 | .no=>none
 | .br b x y=>cond b (x.out enc) (y.out enc)
 | .sw b _ _ x y=>cond b (x.out enc) (y.out enc)
theorem RT.out_val (enc:A→Out):∀r:RT A,r.out enc=r.val.map enc
 | .leaf _=>rfl
 | .no=>rfl
 | .br b x y=>by
  cases b
  ·exact RT.out_val enc y
  ·exact RT.out_val enc x
 | .sw b b' h x y=>by
  subst h
  cases b
  ·exact RT.out_val enc y
  ·exact RT.out_val enc x
end
section
variable {X D:Type}
def loopV (round:X→RT (Sum X D)):Nat→X→Option D
 | 0,_=>none
 | n+1,x=>match (round x).val with
  | some (.inl y)=>loopV round n y
  | some (.inr d)=>some d
  | none=>none
theorem loopV_inj {round:X→RT (Sum X D)}:∀{n m:Nat}{x:X} {d d':D},loopV round n x=some d→loopV round m x=some d'→d=d'
 | 0,_,_,_,_,h,_=>by cases h
 | _+1,0,_,_,_,_,h=>by cases h
 | n+1,m+1,x,d,d',h,h'=>by
  unfold loopV at h h'
  split at h
  ·rename_i y hy
   rw[hy]at h';exact loopV_inj h h'
  ·rename_i e he
   rw[he]at h';simp only[Option.some.injEq]at h h';rw[← h,← h']
  ·cases h
def loopK (round:X→RT (Sum X D))(n:Nat):X→Option D :=
 Nat.rec (motive:=fun _=>X→Option D) (fun _=>none) (fun _ ih x=>match (round x).val with
  | some (.inl y)=>ih y
  | some (.inr d)=>some d
  | none=>none) n
theorem loopK_eq (round:X→RT (Sum X D)):∀(n:Nat) (x:X),loopK round n x=loopV round n x
 | 0,_=>rfl
 | n+1,x=>by
  show (match (round x).val with | some (.inl y)=>loopK round n y | some (.inr d)=>some d | none=>none)=_
  unfold loopV
  split
  ·exact loopK_eq round n _
  ·rfl
  ·rfl
open Classical in
def loopC (round:X→RT (Sum X D))(x:X):Option D:=if h:∃n d,loopV round n x=some d then some (Classical.choose (Classical.choose_spec h)) else none
def loopR (round:X→RT (Sum X D))(x:X):Option D:=match loopK round 100000 x with
 | some d=>some d
 | none=>loopC round x
theorem loopC_of {round:X→RT (Sum X D)}{n:Nat}{x:X}{d:D}(h:loopV round n x=some d):loopC round x=some d:=by
 have hex:∃n d,loopV round n x=some d:=⟨n,d,h⟩;unfold loopC;rw[dif_pos hex,loopV_inj h (Classical.choose_spec (Classical.choose_spec hex))]
theorem loopR_C (round:X→RT (Sum X D))(x:X):loopR round x=loopC round x:=by
 unfold loopR
 split
 ·rename_i d h
  rw[loopK_eq]at h;exact (loopC_of h).symm
 ·rfl
theorem loopR_of {round:X→RT (Sum X D)}{n:Nat}{x:X}{d:D}(h:loopV round n x=some d):loopR round x=some d:=by
 rw[loopR_C];exact loopC_of h
theorem loopR_some {round:X→RT (Sum X D)}{x:X}{d:D}(h:loopR round x=some d):∃n,loopV round n x=some d:=by
 rw[loopR_C]at h;unfold loopC at h
 split at h
 ·rename_i hex
  simp only[Option.some.injEq]at h;exact ⟨_,h ▸ Classical.choose_spec (Classical.choose_spec hex)⟩
 ·cases h
theorem loopR_done {round:X→RT (Sum X D)}{x:X}{d:D}(h:(round x).val=some (.inr d)):loopR round x=some d :=
 loopR_of (n:=1) (by unfold loopV;rw[h])
theorem loopR_next {round:X→RT (Sum X D)}{x y:X}(h:(round x).val=some (.inl y)):loopR round x=loopR round y:=by
 cases hy:loopR round y with
 | some d =>
  obtain ⟨n,hn⟩:=loopR_some hy
  exact loopR_of (n:=n+1) (by unfold loopV;rw[h];exact hn)
 | none =>
  cases hx:loopR round x with
  | none=>rfl
  | some d =>
   exfalso
   obtain ⟨n,hn⟩:=loopR_some hx
   cases n with
   | zero=>cases hn
   | succ n =>
    unfold loopV at hn;rw[h]at hn;rw[loopR_of hn]at hy;cases hy
def loopAns (c0:Code)(dec:Task→Option (Code×X))(alt:X→List Value→AT)(J:Task→List Value):Ans:=fun t=>match dec t with
 | some (c,x)=>some (.br (eqCode c c0) (alt x (J t)) .no)
 | none=>none
def fnAns (dec:Task→Option (X×Hp))(alt:X→Hp→AT):Ans:=fun t=>match dec t with
 | some (x,h)=>some (alt x h)
 | none=>none
def boxB (m:Nat)(ob:Ob):Bool:=ob.live&&ob.rw&&obSc m ob
theorem kept_box {m:Nat}:∀{H H1:List Ob},H.length=H1.length→H.all (boxB m)=true→H1.all (boxB m)=true→ObsKept m H H1
 | [],[],_,_,_=>.nil
 | a::r,b::s,hl,h,h1=>by
  simp only[List.all_cons,Bool.and_eq_true]at h h1
  refine .cons ?_ (kept_box (by simpa using hl) h.2 h1.2)
  have ha:=h.1;have hb:=h1.1;simp only[boxB,Bool.and_eq_true]at ha hb;simp only[obKept,ha.1.1,ha.1.2,hb.2,Bool.or_true,Bool.and_self]
theorem all_box {m:Nat}{H:List Ob}(h:H.all (boxB m)=true):H.all (obSc m)=true:=by
 rw[List.all_eq_true]at h ⊢;intro ob hob;have:=h ob hob;simp only[boxB,Bool.and_eq_true]at this;exact this.2
structure LoopOf (X D:Type) where
 c:Code
 N:Nat
 M:Nat
 S:List Nat
 sl:X→List Value
 hp:X→List Ob
 ex:D→Ex
 pick:Ex→List Nat
 dv:D→List Value
 dh:D→List Ob
def LoopOf.pk (L:LoopOf X D):Ex→List Nat
 | .normal=>L.S
 | e=>L.pick e
def LoopOf.enc (L:LoopOf X D):Sum X D→Out
 | .inl x=>.ex .normal ⟨L.sl x,[],⟨L.hp x,L.N,[]⟩⟩
 | .inr d=>.ex (L.ex d) ⟨L.dv d,[],⟨L.dh d,L.N,[]⟩⟩
def LoopOf.head (L:LoopOf X D)(x:X)(j:List Value):Task:=.code none L.c ⟨sets (junkF L.N j) (L.S.zip (L.sl x)),[],⟨L.hp x,0,[]⟩⟩
def LoopOf.tail (L:LoopOf X D)(d:D)(j:List Value):Out:=.ex (L.ex d) ⟨sets (junkF L.N j) ((L.pick (L.ex d)).zip (L.dv d)),[],⟨L.dh d,0,[]⟩⟩
structure LoopOf.Ok (L:LoopOf X D):Prop where
 s1:∀x,(L.sl x).length=L.S.length
 s2:∀x,(L.sl x).all (fun v=>notU v&&scT L.M v)=true
 h1:∀x,(L.hp x).length=L.M
 h2:∀x,(L.hp x).all (boxB L.M)=true
 d1:∀d,(L.dv d).all (fun v=>notU v&&scT L.M v)=true
 d2:∀d,(L.dh d).length=L.M
 d3:∀d,(L.dh d).all (boxB L.M)=true
 e1:∀d,L.ex d≠.normal
 e2:∀d,noPanic (L.ex d)=true
 e3:∀d,(L.pick (L.ex d)).length=(L.dv d).length
theorem code_ne (c:Code):c≠.loop c:=by
 intro h;have:=congrArg SizeOf.sizeOf h
 simp at this
theorem zip_get {α β:Type}{L:List α}{f:α→β}{x:α}{y:β}(h:(x,y)∈L.zip (L.map f)):y=f x:=by
 rw[List.zip_map_right]at h;obtain ⟨⟨u,v⟩,huv,he⟩:=List.mem_map.1 h;have:=zip_same huv;subst this;simp only[Prod.map,id,Prod.mk.injEq]at he;rw[← he.1,← he.2]
theorem lget_sets {L:LoopOf X D}(hnd:L.S.Nodup) (hlt:∀k∈L.S,k<L.N) (x:X) (j:List Value):∀kv∈L.S.zip (L.sl x),lget (sets (junkF L.N j) (L.S.zip (L.sl x))) kv.1=kv.2:=by
 have hlen:∀(m i:Nat),(junkFrom j m i).length=m:=by
  intro m
  induction m with
  | zero=>intro i;rfl
  | succ m ih=>intro i;simp [junkFrom,ih]
 have hset:∀(t:List Value) (k:Nat) (v:Value),lset t k v=t.set k v:=by
  intro t
  induction t with
  | nil=>intro k v;rfl
  | cons y r ih=>intro k v;cases k with | zero=>rfl | succ k=>simp [lset,ih]
 have key:∀(S:List Nat) (vs:List Value) (t:List Value),S.Nodup→(∀k∈S,k<t.length)→(sets t (S.zip vs)).length=t.length∧(∀kv∈S.zip vs,lget (sets t (S.zip vs)) kv.1=kv.2)∧(∀k,k ∉ S→(sets t (S.zip vs))[k]?=t[k]?):=by
  intro S
  induction S with
  | nil=>intro vs t _ _;exact ⟨rfl,fun kv h=>by simp at h,fun k _=>rfl⟩
  | cons k S ih =>
   intro vs t hn hl
   cases vs with
   | nil=>exact ⟨rfl,fun kv h=>by simp at h,fun k _=>rfl⟩
   | cons v vs =>
    rw[List.nodup_cons]at hn
    have hl':∀k'∈S,k' < (lset t k v).length:=fun k' hk'=>by rw[hset,List.length_set];exact hl k' (List.mem_cons_of_mem _ hk')
    obtain ⟨i1,i2,i3⟩:=ih vs (lset t k v) hn.2 hl'
    refine ⟨?_,?_,?_⟩
    ·show (sets (lset t k v) (S.zip vs)).length=_
     rw[i1,hset,List.length_set]
    ·intro kv hkv
     show lget (sets (lset t k v) (S.zip vs)) kv.1=kv.2
     simp only[List.zip_cons_cons,List.mem_cons]at hkv
     rcases hkv with rfl | hkv
     ·rw[lget_eq,Array.getD_eq_getD_getElem?,List.getElem?_toArray,i3 k hn.1,hset,List.getElem?_set_self (hl k (List.mem_cons_self ..))]
      rfl
     ·exact i2 kv hkv
    ·intro k' hk'
     show (sets (lset t k v) (S.zip vs))[k']?=_
     simp only[List.mem_cons,not_or]at hk'
     rw[i3 k' hk'.2,hset,List.getElem?_set_ne (Ne.symm hk'.1)]
 exact (key L.S (L.sl x) (junkF L.N j) hnd (fun k hk=>by unfold junkF;rw[hlen];exact hlt k hk)).2.1
theorem len_sets {j:List Value}{n:Nat}(l:List (Nat×Value)):(sets (junkF n j) l).length=n:=by
 have hlen:∀(m i:Nat),(junkFrom j m i).length=m:=by
  intro m
  induction m with
  | zero=>intro i;rfl
  | succ m ih=>intro i;simp [junkFrom,ih]
 have hset:∀(t:List Value) (k:Nat) (v:Value),(lset t k v).length=t.length:=by
  intro t
  induction t with
  | nil=>intro k v;rfl
  | cons y r ih=>intro k v;cases k with | zero=>rfl | succ k=>simp [lset,ih]
 have:∀(l:List (Nat×Value)) (t:List Value),(sets t l).length=t.length:=by
  intro l
  induction l with
  | nil=>intro t;rfl
  | cons kv l ih=>intro t;show (sets (lset t kv.1 kv.2) l).length=_;rw[ih,hset]
 rw[this];exact hlen n 0
section
variable {P:Program}(hN:NoNG P) (hm:P.follows .mixedOrders=true)
include hN hm
theorem Known.factK {a:Ans}(hk:Known P a) {n:Nat}{t:Task}{k:Kn}{r:Out}(h:evC P a.c n t k=some r):∃o,k o=some r∧Fact P t o:=by
 obtain ⟨o',h1,h2⟩:=evC_ok (P:=P) a.oc n t k r h
 have hd:DrawnOk P drawnV:=fun self hs rd id os s o h=>drawnV_ok hN hm self hs rd id os s o h
 have hh:=iterO_ok (drawn:=drawnV) hN hd hk.selfOk hk.loopOk n
 refine ⟨o',h2,hh.1 _ _ h1,?_⟩
 unfold LoopFact
 split
 ·exact fun hb=>hh.2 _ _ _ _ _ h1 hb
 ·trivial
open Classical in
theorem Fact.loopNext {c:Code}{s s1 s2:St}{e:Ex}(h1:Fact P (.code none c s) (.ex .normal s1)) (h2:Fact P (.code none (.loop c) s1) (.ex e s2)):Fact P (.code none (.loop c) s) (.ex e s2):=by
 let a:Ans:=fun t=>if t=.code none c s then some (.leaf (.ex .normal s1)) else if t=.code none (.loop c) s1 then some (.leaf (.ex e s2)) else none
 have hk:Known P a:=by
  intro t x o ht ho;simp only[a]at ht
  split at ht
  ·rename_i e1
   simp only[Option.some.injEq]at ht;subst ht e1;simp only[AT.out,Option.some.injEq]at ho;subst ho;exact h1
  ·split at ht
   ·rename_i e1
    simp only[Option.some.injEq]at ht;subst ht e1;simp only[AT.out,Option.some.injEq]at ho;subst ho;exact h2
   ·cases ht
 have e1:a (.code none c s)=some (.leaf (.ex .normal s1)):=if_pos rfl
 have e2:a (.code none (.loop c) s1)=some (.leaf (.ex e s2)):=by
  show (if _ then _ else _)=_
  rw[if_neg (by intro h;injection h with _ h _;exact code_ne c h.symm),if_pos rfl]
 refine hk.step hN hm (n:=1) ?_
 simp only[evS,stepC,evC,Ans.c,e1,e2,AT.run]
open Classical in
theorem Fact.loopDone {c:Code}{s s2:St}{e:Ex}(h1:Fact P (.code none c s) (.ex e s2)) (he:e≠.normal):Fact P (.code none (.loop c) s) (.ex e s2):=by
 let a:Ans:=fun t=>if t=.code none c s then some (.leaf (.ex e s2)) else none
 have hk:Known P a:=by
  intro t x o ht ho;simp only[a]at ht
  split at ht
  ·rename_i e1
   simp only[Option.some.injEq]at ht;subst ht e1;simp only[AT.out,Option.some.injEq]at ho;subst ho;exact h1
  ·cases ht
 have e1:a (.code none c s)=some (.leaf (.ex e s2)):=if_pos rfl
 refine hk.step hN hm (n:=1) ?_
 cases e with
 | normal=>exact absurd rfl he
 | _=>simp only[evS,stepC,evC,Ans.c,e1,AT.run]
theorem LoopOf.round {L:LoopOf X D}(ok:L.Ok) {a:Ans}(hk:Known P a) {n:Nat}{rd:X→RT (Sum X D)}
  (hr:∀x j,evC P a.c n (L.head x j) (sumK L.M L.N L.pk)=(rd x).out L.enc) {x:X} {y:Sum X D} (hy:(rd x).val=some y) {t:List Value} (ht:t.length=L.N) (hS:∀kv∈L.S.zip (L.sl x),lget t kv.1=kv.2) :
  ∃j,Fact P (.code none L.c ⟨t,[],⟨L.hp x,0,[]⟩⟩) (match y with
   | .inl x'=>.ex .normal ⟨sets (junkF L.N j) (L.S.zip (L.sl x')),[],⟨L.hp x',0,[]⟩⟩
   | .inr d=>L.tail d j):=by
 have h1:=hr x (t.map lo);rw[RT.out_val,hy,Option.map_some]at h1;obtain ⟨o,h2,hf⟩:=hk.factK hN hm h1
 have hmem:∀{l:List Value},l.all (fun v=>notU v&&scT L.M v)=true→∀v∈l,notU v=true∧scT L.M v=true:=by
  intro l hl v hv;rw[List.all_eq_true]at hl;have:=hl v hv;rw[Bool.and_eq_true]at this;exact this
 have hsl:=hmem (ok.s2 x);have hM:=ok.h1 x
 have hgo:∀(e:Ex) (T:List Value) (H1:List Ob),L.pk e=L.pk e→noPanic e=true→H1.length=L.M→H1.all (boxB L.M)=true→T.all (fun v=>notU v&&scT L.M v)=true →
   some o=some o→sumK L.M L.N L.pk o=some (.ex e ⟨T,[],⟨H1,L.N,[]⟩⟩)→∃j,Fact P (.code none L.c ⟨t,[],⟨L.hp x,0,[]⟩⟩) (.ex e ⟨sets (junkF L.N j) ((L.pk e).zip T),[],⟨H1,0,[]⟩⟩):=by
  intro e T H1 _ he hl1 hb1 hT _ hs;unfold sumK at hs
  split at hs
  ·rename_i e' s _
   split at hs
   ·rename_i hd
    split at hs
    case h_2=>cases hs
    rename_i hlen;simp only[Option.some.injEq,Out.ex.injEq,St.mk.injEq,Hp.mk.injEq]at hs;obtain ⟨rfl,k2,_,k3,_,k5⟩:=hs;have k4:=lenIs_eq _ _ hlen;obtain ⟨LL,d,bl,base1,wr2⟩:=s;simp only at hd k2 k3 k4 k5;subst hd k5
    refine ⟨LL.map lo,?_⟩
    have hbl:bl=H1++bl.drop L.M:=by rw[← k3,List.take_append_drop]
    rw[hbl]at hf;have hf':Fact P (.code none L.c ⟨sets (junkF L.N (t.map lo)) (L.S.zip (L.sl x)),[],⟨L.hp x,0,[]⟩⟩) (.ex e' ⟨LL,[],⟨H1++bl.drop L.M,base1,[]⟩⟩):=hf
    have:=hf'.forget (G:=[]) (t:=t) (T:=sets (junkF L.N (LL.map lo)) ((L.pk e').zip T)) (Nat.zero_le _) (kept_box (m:=(L.hp x).length) (by rw[hM,hl1]) (by rw[hM];exact ok.h2 x) (by rw[hM];exact hb1)) (by rw[hM];exact all_box (ok.h2 x))
     (slotRs_known ht fun kv hkv=>?_) (slotRs_known k4 fun kv hkv=>?_) he
    ·rw[List.append_nil,List.append_nil]at this
     exact this
    ·have hv:kv.2∈L.sl x:=(List.of_mem_zip hkv).2
     exact ⟨getElem_of_lget (hS kv hkv) (hsl _ hv).1,by rw[hM];exact (hsl _ hv).2⟩
    ·have hv:kv.2∈T:=(List.of_mem_zip hkv).2
     rw[← k2]at hkv
     have:=zip_get (show (kv.1,kv.2)∈(L.pk e').zip ((L.pk e').map (lget LL)) from hkv)
     exact ⟨getElem_of_lget this.symm (hmem hT _ hv).1,by rw[hM];exact (hmem hT _ hv).2⟩
   ·cases hs
  ·cases hs
 cases y with
 | inl x'=>exact hgo .normal (L.sl x') (L.hp x') rfl rfl (ok.h1 x') (ok.h2 x') (ok.s2 x') rfl h2
 | inr d =>
  obtain ⟨j,hj⟩:=hgo (L.ex d) (L.dv d) (L.dh d) rfl (ok.e2 d) (ok.d2 d) (ok.d3 d) (ok.d1 d) rfl h2
  refine ⟨j,?_⟩
  have e:L.pk (L.ex d)=L.pick (L.ex d):=by
   have:=ok.e1 d
   generalize L.ex d=q at this
   cases q<;>first | rfl | exact absurd rfl this
  rw[e]at hj;exact hj
theorem LoopOf.fact {L:LoopOf X D}(ok:L.Ok) (hnd:L.S.Nodup) (hlt:∀k∈L.S,k<L.N) {a:Ans}(hk:Known P a) {n:Nat}{rd:X→RT (Sum X D)}
  (hr:∀x j,evC P a.c n (L.head x j) (sumK L.M L.N L.pk)=(rd x).out L.enc):∀{m:Nat} {x:X} {d:D},loopV rd m x=some d→∀{t:List Value},t.length=L.N→(∀kv∈L.S.zip (L.sl x),lget t kv.1=kv.2) →
  ∃j,Fact P (.code none (.loop L.c) ⟨t,[],⟨L.hp x,0,[]⟩⟩) (L.tail d j)
 | 0,_,_,h,_,_,_=>by cases h
 | m+1,x,d,h,t,ht,hS=>by
  unfold loopV at h
  split at h
  ·rename_i y hy
   obtain ⟨j,hj⟩:=LoopOf.round hN hm ok hk hr hy ht hS;obtain ⟨j',hj'⟩:=LoopOf.fact ok hnd hlt hk hr h (len_sets _) (lget_sets hnd hlt y j);exact ⟨j',hj.loopNext hN hm hj'⟩
  ·rename_i d' hd
   simp only[Option.some.injEq]at h;subst h;obtain ⟨j,hj⟩:=LoopOf.round hN hm ok hk hr hd ht hS;exact ⟨j,Fact.loopDone hN hm hj (ok.e1 d')⟩
  ·cases h
theorem LoopOf.known {L:LoopOf X D}(ok:L.Ok) (hnd:L.S.Nodup) (hlt:∀k∈L.S,k<L.N) {a:Ans}(hk:Known P a) {n:Nat}{rd:X→RT (Sum X D)}
  (hr:∀x j,evC P a.c n (L.head x j) (sumK L.M L.N L.pk)=(rd x).out L.enc) (dec:Task→Option (Code×X)) (alt:X→List Value→AT)
  (hd:∀t c x,dec t=some (c,x)→c=L.c→∃T,t=.code none (.loop L.c) ⟨T,[],⟨L.hp x,0,[]⟩⟩∧T.length=L.N∧∀kv∈L.S.zip (L.sl x),lget T kv.1=kv.2)
  (ha:∀x j o,(alt x j).out=some o→∃d,loopR rd x=some d∧o=L.tail d j) :
  ∃J:Task→List Value,Known P (loopAns L.c dec alt J):=by
 classical
 let good:Task→List Value→Prop:=fun t j=>∀c x d,dec t=some (c,x)→c=L.c→loopR rd x=some d→Fact P t (L.tail d j)
 have hex:∀t,∃j,good t j:=by
  intro t
  cases hdt:dec t with
  | none=>exact ⟨[],fun c x d h=>by rw[hdt]at h;cases h⟩
  | some cx =>
   obtain ⟨c,x⟩:=cx
   by_cases hc:c=L.c
   ·cases hl:loopR rd x with
    | none=>exact ⟨[],fun c' x' d h _ hr=>by rw[hdt]at h;cases h;rw[hl]at hr;cases hr⟩
    | some d =>
     obtain ⟨T,rfl,hT,hS⟩:=hd t c x hdt hc;obtain ⟨m,hm'⟩:=loopR_some hl;obtain ⟨j,hj⟩:=LoopOf.fact hN hm ok hnd hlt hk hr hm' hT hS
     exact ⟨j,fun c' x' d' h _ hr=>by rw[hdt]at h;cases h;rw[hl]at hr;cases hr;exact hj⟩
   ·exact ⟨[],fun c' x' d h h' _=>by rw[hdt]at h;cases h;exact absurd h' hc⟩
 refine ⟨fun t=>Classical.choose (hex t),?_⟩
 intro t at' o ht ho
 cases hdt:dec t with
 | none=>simp only[loopAns,fnAns,hdt]at ht;cases ht
 | some cx =>
  obtain ⟨c,x⟩:=cx;simp only[loopAns,fnAns,hdt,Option.some.injEq]at ht;subst ht;simp only[AT.out]at ho;obtain ⟨h1,h2⟩:=cond_some ho;obtain ⟨d,h3,rfl⟩:=ha x _ o h2;exact Classical.choose_spec (hex t) c x d hdt (eqCode_eq h1) h3
theorem Known.fn {a:Ans}(hk:Known P a) {A R:Type}{n:Nat}{zs:List Nat}(f:FuncId) (args:A→List Value) (rt:A→RT R) (enc:R→Value)
  (hev:∀x,evC P a.c n (.call f ⟨args x⟩ ⟨[],0,[]⟩) (frzK zs)=(rt x).out fun r=>.ret (enc r) ⟨[],0,[]⟩) (hpa:∀x,(args x).all pureA=true) (dec:Task→Option (A×Hp)) (alt:A→Hp→AT)
  (hd:∀t x h,dec t=some (x,h)→t=.call f ⟨args x⟩ h) (ha:∀x h o,(alt x h).out=some o→∃r,(rt x).val=some r∧o=.ret (enc r) h) :
  Known P (fnAns dec alt):=by
 intro t at' o ht ho
 cases hdt:dec t with
 | none=>simp only[loopAns,fnAns,hdt]at ht;cases ht
 | some xh =>
  obtain ⟨x,h⟩:=xh;simp only[loopAns,fnAns,hdt,Option.some.injEq]at ht;subst ht;obtain ⟨r,h1,rfl⟩:=ha x h o ho;obtain rfl:=hd t x h hdt;have h2:=hev x;rw[RT.out_val,h1,Option.map_some]at h2;obtain ⟨o,h3,hf⟩:=hk.factK hN hm h2
  cases o with
  | ret v h'=>exact hf.lift h3 (hpa x) h
  | _=>cases h3
end
end
end
end Go.Gi
