/- Part 6 of the texts below the claim. Conditions: none. -/
import Derived.Test.YtapeoolandmefaaMg5
import Derived.Test.YtapeoolandmefaaMg4
set_option linter.unusedVariables false
set_option linter.unusedSimpArgs false
namespace Go.Gi
open Go.RowKit
noncomputable section
def iterO (orc:Self)(drawn:Program→Self→Option Nat→Nat→Array Oper→St→Option Out)(P:Program):Nat→Self
  | 0=>orc
  | n+1=>fun t=>match orc t with
    | some o=>some o
    | none=>stepF drawn P (iterO orc drawn P n) t
theorem iterO_ok {P:Program}{orc:Self}{drawn:Program→Self→Option Nat→Nat→Array Oper→St→Option Out}(hN:NoNG P) (hdr:DrawnOk P drawn) (ho:SelfOk P orc) (hl:LoopOk P orc) :
    ∀n,SelfOk P (iterO orc drawn P n)∧LoopOk P (iterO orc drawn P n)
  | 0=>⟨ho,hl⟩
  | n+1=>by
    obtain ⟨h1,h2⟩:=iterO_ok hN hdr ho hl n
    constructor
    · intro t o h
      simp only [iterO]at h
      split at h
      · rename_i o' ho'
        cases h
        exact ho _ _ ho'
      · exact step_ok hN hdr h1 h2 t o h
    · intro rd c s e s' hc hb
      simp only [iterO]at hc
      split at hc
      · rename_i o' ho'
        cases hc
        exact hl _ _ _ _ _ ho' hb
      · obtain ⟨e1,s1,he,hh⟩:=loop_sound (drawn:=drawn) h1 h2 hc
        cases he
        exact (hh hb).2
def resC (P:Program)(H:List Ob)(t:List Value):List ResultVar→(List Value→Option Out)→Option Out
  | [],k=>k []
  | .tmp x::r,k=>headK (lget t x) fun v=>resC P H t r fun vs=>k (v::vs)
  | .cell a ty::r,k =>
    match symLoad P H ty (lget t a) with
    | some (b,v)=>cond b (headK v fun v=>resC P H t r fun vs=>k (v::vs)) none
    | none=>none
theorem resC_ok {P:Program}{H:List Ob}{t:List Value}:∀{rs:List ResultVar}{k:List Value→Option Out}{r:Out},resC P H t rs k=some r→∃vs,resL P H t.toArray rs=some vs∧k vs=some r
  | [],k,r,h=>⟨_,rfl,h⟩
  | .tmp x::l,k,r,h=>by
    simp only [resC,headK_eq]at h;obtain ⟨vs,h1,h2⟩:=resC_ok h
    exact ⟨_,by simp only [resL,h1,Option.map_some,← lget_eq],h2⟩
  | .cell a ty::l,k,r,h=>by
    simp only [resC]at h
    split at h
    · rename_i b v hs
      obtain ⟨h1,h⟩:=cond_some h;rw [headK_eq]at h;obtain ⟨vs,h2,h3⟩:=resC_ok h
      exact ⟨_,by simp only [resL,← lget_eq,symLoad_ok hs h1,h2],h3⟩
    · cases h
def one (vs:List Value):Value:=match vs with | [v]=>v | vs=>.tuple ⟨vs⟩
def mapSc (n:Nat)(es:List (Value×Value)):Bool:=es.all fun e=>scT n e.2
def wrMK (bl:List Ob)(n:Nat):List Nat→Option Out→Option Out
  | [],y=>y
  | b::r,y =>
    match nthO bl b with
    | some (.map es)=>cond (mapSc n es) (wrMK bl n r y) none
    | some o=>if obSc n o then wrMK bl n r y else none
    | none=>none
theorem wrMK_ok {bl:List Ob}{n:Nat}{x:Out}:∀{l:List Nat}{y:Option Out},wrMK bl n l y=some x→(l.all fun b=>(bl[b]?).all (obSc n))=true∧y=some x
  | [],_,h=>⟨rfl,h⟩
  | b::r,y,h=>by
    simp only [wrMK]at h;rw [nthO_eq]at h
    split at h
    · rename_i es he
      obtain ⟨h1,h2⟩:=cond_some h;obtain ⟨h3,h4⟩:=wrMK_ok h2
      refine ⟨?_,h4⟩
      rw [List.all_cons,he,h3,Bool.and_true];exact h1
    · rename_i o _ ho
      split at h
      · rename_i h1
        obtain ⟨h3,h4⟩:=wrMK_ok h
        refine ⟨?_,h4⟩
        rw [List.all_cons,ho,h3,Bool.and_true];exact h1
      · cases h
    · cases h
def anyMap (bl:List Ob)(l:List Nat):Bool:=l.any fun b=>match nthO bl b with
  | some (.map _)=>true
  | _=>false
def exitK (h hf:Hp)(v:Value)(k:Hp→Option Out):Option Out :=
  if scT h.bl.length v&&hf.wr.isEmpty then k h
  else if anyMap hf.bl hf.wr then
    (if scT h.bl.length v then wrMK hf.bl h.bl.length hf.wr (heapK { bl:=hf.bl.take h.bl.length,base:=h.base,wr:=hf.wr.filter (fun b=>decide (b<h.base))++h.wr } k) else none)
  else heapK (exitH h hf v) k
theorem exitK_ok {h hf:Hp}{v:Value}{k:Hp→Option Out}{r:Out}(hx:exitK h hf v k=some r):k (exitH h hf v)=some r:=by
  unfold exitK at hx
  split at hx
  · rename_i hh;unfold exitH;rw [if_pos hh];exact hx
  · rename_i hh
    split at hx
    · split at hx
      · rename_i hv
        obtain ⟨h1,h2⟩:=wrMK_ok hx;rw [heapK_eq]at h2;unfold exitH
        rw [if_neg hh,if_pos (by rw [hv,h1];rfl)]
        exact h2
      · cases hx
    · rw [heapK_eq]at hx;exact hx
def leaveC (P:Program)(self:SelfC)(fn:Func)(t:List Value)(h:Hp):List Deferred→Mo→Hp→Kn→Option Out
  | [],.returning,hf,k=>resC P hf.bl t fn.results.toList fun vs=>headK (one vs) fun v=>exitK h hf v fun h=>k (.ret v h)
  | [],.panicking v false,hf,k=>headK v fun v=>exitK h hf v fun h=>k (.pan v h)
  | [],.panicking _ true,_,_=>none
  | d::ds,m,hf,k =>
    match d.target with
    | .collected r =>
      match nthO hf.bl r with
      | some (.dfr false)=>heapK (hf.put r (.dfr true)) fun hf=>leaveC P self fn t h ds m hf k
      | _=>none
    | .fn (.func g) cap =>
      if bodied P g then
        self (.dcall g (d.args++cap) m hf) fun
          | .dret m' h'=>leaveC P self fn t h ds (settleM m') h' k
          | _=>none
      else none
    | _=>none
theorem resB_one {P:Program}{H:List Ob}{fn:Func}{t:Array Value}{vs:List Value}(h:resL P H t fn.results.toList=some vs):resB P H fn t=some (one vs):=by
  unfold resB;rw [h]
  cases vs with
  | nil=>rfl
  | cons v r=>cases r with
    | nil=>rfl
    | cons _ _=>rfl
section
variable {P:Program}{self:SelfC}{sd:Self}
theorem leaveC_ok (hs:CpsOk self sd) {fn:Func}{t:List Value}{h:Hp}:∀{ds:List Deferred}{m:Mo}{hf:Hp}{k:Kn}{r:Out},leaveC P self fn t h ds m hf k=some r →
    ∃o,leave P sd fn t h ds m hf=some o∧k o=some r
  | [],.returning,hf,k,r,hc=>by
    simp only [leaveC]at hc;obtain ⟨vs,h1,h2⟩:=resC_ok hc;rw [headK_eq]at h2
    exact ⟨_,by simp only [leave,resB_one h1,Option.map_some],exitK_ok h2⟩
  | [],.panicking v false,hf,k,r,hc=>by
    simp only [leaveC]at hc;rw [headK_eq]at hc;exact ⟨_,rfl,exitK_ok hc⟩
  | [],.panicking v true,hf,k,r,hc=>by cases hc
  | d::ds,m,hf,k,r,hc=>by
    simp only [leaveC]at hc;simp only [leave]
    split at hc
    · rename_i x hx
      rw [hx];rw [nthO_eq]at hc;simp only
      split at hc
      · rename_i hb
        rw [hb];rw [heapK_eq]at hc;exact leaveC_ok hs hc
      · cases hc
    · rename_i g cap hx
      rw [hx];simp only
      split at hc
      · rename_i hb
        rw [if_pos hb];obtain ⟨o,h1,h2⟩:=hs _ _ _ hc;rw [h1]
        cases o with
        | dret m' h'=>exact leaveC_ok hs h2
        | _=>cases h2
      · cases hc
    · cases hc
def isRec (o:Oper):Bool:=match o.op with | .call { callee:=.builtin .recover,.. }=>true | _=>false
def runDOpsC (P:Program)(os:Array Oper):List Nat→St→Mo→(Ex→St→Mo→Option Out)→Option Out
  | [],s,m,k=>k .normal s m
  | i::r,s,m,k =>
    match os[i]? with
    | none=>runDOpsC P os r s m k
    | some o =>
      guardC os o s.t
        (fun t=>match isRec o with
          | true=>(match aop P (evalT t) s.h o with
            | some .recover=>(match m with
              | .panicking v false=>setK' t o.dst v fun t=>runDOpsC P os r { t:=t,d:=s.d,h:=s.h } (.panicking v true) k
              | m=>setK' t o.dst .nilIface fun t=>runDOpsC P os r { t:=t,d:=s.d,h:=s.h } m k)
            | _=>none)
          | false=>opC P (evalT t) s.h o {
            val:=fun v h=>setK' t o.dst v fun t=>runDOpsC P os r { t:=t,d:=s.d,h:=h } m k
            enter:=fun _ _=>none
            yield:=fun _ _=>none
            defer:=fun _=>none
            panic:=fun _=>none })
        (fun t=>setK' t o.dst undef fun t=>runDOpsC P os r { t:=t,d:=s.d,h:=s.h } m k)
theorem runDOpsC_ok {P:Program}{os:Array Oper}:∀{l:List Nat}{s:St}{m:Mo}{k:Ex→St→Mo→Option Out}{r:Out},runDOpsC P os l s m k=some r →
    ∃e s' m',runDOps P os l s m=some (e,s',m')∧k e s' m'=some r
  | [],s,m,k,r,h=>⟨_,_,_,rfl,h⟩
  | i::l,s,m,k,r,h=>by
    simp only [runDOpsC]at h;simp only [runDOps]
    split at h
    · rename_i hi
      rw [hi];exact runDOpsC_ok h
    · rename_i o hi
      rw [hi];simp only [putK_eq,forceH_eq]
      rcases guardC_ok h with ⟨hw,h⟩ | ⟨hw,h⟩
      · rw [if_pos hw]
        split at h
        · split at h
          · rename_i ha
            rw [ha];simp only
            split at h
            · simp only [setK'_eq]at h
              exact runDOpsC_ok h
            · rename_i hm
              simp only [setK'_eq]at h;obtain ⟨e,s',m',h1,h2⟩:=runDOpsC_ok h
              refine ⟨e,s',m',?_,h2⟩
              split
              · exact (hm _ rfl).elim
              · exact h1
          · cases h
        · obtain ⟨nx,h1,h2⟩:=opC_ok h
          rw [h1]
          cases nx with
          | val v hp =>
            simp only [Ends.on,setK'_eq]at h2;exact runDOpsC_ok h2
          | _=>cases h2
      · rw [if_neg (by rw [hw];intro h;cases h)]
        simp only [setK'_eq]at h;exact runDOpsC_ok h
def dcodeC (P:Program)(self:SelfC):Code→St→Mo→(Ex→St→Mo→Option Out)→Option Out
  | .seq a b,s,m,k=>dcodeC P self a s m fun e s' m'=>match e with
    | .normal=>dcodeC P self b s' m' k
    | e=>k e s' m'
  | .cond c x y,s,m,k=>if okO c then (match evalT s.t c with
      | .bool b=>cond b (dcodeC P self x s m k) (dcodeC P self y s m k)
      | _=>none) else none
  | .region id os dr,s,m,k =>
    if hasRecover os&&!dr then runDOpsC P os (List.range os.size) s m k
    else self (.code none (.region id os dr) s) fun
      | .ex e s'=>k e s' m
      | _=>none
  | c,s,m,k=>self (.code none c s) fun
    | .ex e s'=>k e s' m
    | _=>none
section
variable {P:Program}{self:SelfC}{sd:Self}
theorem dplainC_ok (hs:CpsOk self sd) {c:Code}{s:St}{m:Mo}{k:Ex→St→Mo→Option Out}{r:Out}(h:self (.code none c s) (fun | .ex e s'=>k e s' m | _=>none)=some r) :
    ∃e s' m',(match sd (.code none c s) with | some (.ex e s')=>some (e,s',m) | _=>none)=some (e,s',m')∧k e s' m'=some r:=by
  obtain ⟨o,h1,h2⟩:=hs _ _ _ h;rw [h1]
  cases o with
  | ex e s'=>exact ⟨e,s',m,rfl,h2⟩
  | _=>cases h2
theorem dcodeC_ok (hs:CpsOk self sd):∀{c:Code}{s:St}{m:Mo}{k:Ex→St→Mo→Option Out}{r:Out},dcodeC P self c s m k=some r→∃e s' m',dcode P sd c s m=some (e,s',m')∧k e s' m'=some r
  | .seq a b,s,m,k,r,h=>by
    obtain ⟨e,s',m',h1,h2⟩:=dcodeC_ok hs (c:=a) (k:=fun e s' m'=>match e with | .normal=>dcodeC P self b s' m' k | e=>k e s' m') h
    simp only [dcode];rw [h1]
    cases e with
    | normal=>exact dcodeC_ok hs (c:=b) h2
    | ret=>exact ⟨_,_,_,rfl,h2⟩
    | exit id=>exact ⟨_,_,_,rfl,h2⟩
    | goto l=>exact ⟨_,_,_,rfl,h2⟩
    | panic v=>exact ⟨_,_,_,rfl,h2⟩
  | .cond c x y,s,m,k,r,h=>by
    simp only [dcodeC]at h;simp only [dcode]
    split at h
    · rename_i hx
      rw [if_pos hx]
      split at h
      · rename_i b hb
        rw [hb]
        cases b with
        | true=>exact dcodeC_ok hs (c:=x) h
        | false=>exact dcodeC_ok hs (c:=y) h
      · cases h
    · cases h
  | .region id os dr,s,m,k,r,h=>by
    simp only [dcodeC]at h;simp only [dcode]
    split at h
    · rename_i hx
      rw [if_pos hx];exact runDOpsC_ok h
    · rename_i hx
      rw [if_neg hx];exact dplainC_ok hs h
  | .skip,s,m,k,r,h=>dplainC_ok hs h
  | .label _,s,m,k,r,h=>dplainC_ok hs h
  | .exit _,s,m,k,r,h=>dplainC_ok hs h
  | .goto _,s,m,k,r,h=>dplainC_ok hs h
  | .ret,s,m,k,r,h=>dplainC_ok hs h
  | .block _ _,s,m,k,r,h=>dplainC_ok hs h
  | .loop _,s,m,k,r,h=>dplainC_ok hs h
  | .rangeFunc _ _ _ _,s,m,k,r,h=>dplainC_ok hs h
  | .scope _,s,m,k,r,h=>dplainC_ok hs h
  | .refuse _,s,m,k,r,h=>dplainC_ok hs h
end
def endLoopC (self:SelfC)(rd:Option Nat)(L:Nat)(d:List Deferred)(t:List Value)(k:Kn):Kn
  | .ret _ h =>
    match nthO h.bl L with
    | some (.loop st pend t' ps a b D) =>
      match st with
      | .busy=>none
      | _ =>
      match pend with
      | none=>heapK (h.put L (.loop .exhausted none t' ps a b D)) fun h=>k (.ex .normal { t:=t,d:=d,h:=h })
      | some c=>heapK (h.put L (.loop .exhausted (some c) t' ps a b D)) fun h=>self (.code rd c { t:=t,d:=d,h:=h }) fun
        | .ex e s=>k (.ex e s)
        | _=>none
    | _=>none
  | _=>none
theorem endLoopC_ok (hs:CpsOk self sd) {rd:Option Nat}{L:Nat}{d:List Deferred}{t:List Value}{k:Kn}{o r:Out}(hc:endLoopC self rd L d t k o=some r):∃o',endLoop sd rd L d t (some o)=some o'∧k o'=some r:=by
  cases o with
  | ret v h =>
    simp only [endLoopC]at hc;rw [nthO_eq]at hc;simp only [endLoop]
    split at hc
    · rename_i st pend t' ps a b D hb
      rw [hb];simp only
      split at hc
      · cases hc
      · rename_i hst
        rw [if_neg hst]
        split at hc
        · rw [heapK_eq]at hc
          exact ⟨_,rfl,hc⟩
        · rw [heapK_eq]at hc
          obtain ⟨o',h1,h2⟩:=hs _ _ _ hc;simp only;rw [h1]
          cases o' with
          | ex e s=>exact ⟨_,rfl,h2⟩
          | _=>cases h2
    · cases hc
  | _=>cases hc
def pushK {β:Type}(h:Hp) (ob:Ob) (k:Hp→β):β:=heapK (h.push ob) k
theorem pushK_eq {β:Type}(h:Hp) (ob:Ob) (k:Hp→β):pushK h ob k=k (h.push ob):=heapK_eq _ _
def stepC (P:Program)(self:SelfC):SelfC
  | .code rd c s,k =>
    match c with
    | .skip | .label _=>k (.ex .normal s)
    | .exit id=>k (.ex (.exit id) s)
    | .goto l=>k (.ex (.goto l) s)
    | .ret=>k (.ex .ret s)
    | .seq a b=>self (.code rd a s) fun
      | .ex .normal s'=>self (.code rd b s') fun
        | .ex e s2=>k (.ex e s2)
        | _=>none
      | .ex e s'=>k (.ex e s')
      | _=>none
    | .cond c x y =>
      if okO c then match c with
        | .tmp d=>(match lget s.t d with
          | .bool b=>cond b (litK s.t d true fun t=>self (.code rd x { t:=t,d:=s.d,h:=s.h }) fun | .ex e s'=>k (.ex e s') | _=>none)
              (litK s.t d false fun t=>self (.code rd y { t:=t,d:=s.d,h:=s.h }) fun | .ex e s'=>k (.ex e s') | _=>none)
          | _=>none)
        | _=>(match evalT s.t c with
          | .bool b=>cond b (self (.code rd x s) fun | .ex e s'=>k (.ex e s') | _=>none) (self (.code rd y s) fun | .ex e s'=>k (.ex e s') | _=>none)
          | _=>none)
      else none
    | .block id c=>self (.code rd c s) fun
      | .ex (.exit id') s'=>if id'=id then k (.ex .normal s') else k (.ex (.exit id') s')
      | .ex e s'=>k (.ex e s')
      | _=>none
    | .loop c=>self (.code rd c s) fun
      | .ex .normal s'=>self (.code rd (.loop c) s') fun | .ex e s2=>k (.ex e s2) | _=>none
      | .ex e s'=>k (.ex e s')
      | _=>none
    | .region _ os dr=>(match dr with
      | true=>drawnXC P self os s fun e s'=>k (.ex e s')
      | false=>runOpsC P self rd os (List.range os.size) s fun e s'=>k (.ex e s'))
    | .rangeFunc g ps assign body =>
      if okO g then match evalT s.t g with
        | .func (.func f) first cap =>
          if bodied P f then
            match rd with
            | none=>pushK s.h (.dfr false) fun h1=>pushK h1 (loopNew s ps assign body s.h.bl.length) fun h2 =>
              headsK (first.toList++(.func (.yield (s.h.bl.length+1)) #[] #[]::cap.toList)) fun args =>
              self (.call f ⟨args⟩ h2) (endLoopC self none (s.h.bl.length+1) ({ target:=.collected s.h.bl.length,args:=#[] }::s.d) s.t k)
            | some l0=>match nthO s.h.bl l0 with
              | some (.loop _ _ _ _ _ _ D)=>pushK s.h (loopNew s ps assign body D) fun h2 =>
                headsK (first.toList++(.func (.yield s.h.bl.length) #[] #[]::cap.toList)) fun args =>
                self (.call f ⟨args⟩ h2) (endLoopC self (some l0) s.h.bl.length s.d s.t k)
              | _=>none
          else none
        | _=>none
      else none
    | _=>none
  | .call f args h,k =>
    match P.funcs[f]? with
    | some fn=>match fn.body with
      | some c=>headsK (frame fn args) fun t=>self (.code none c { t:=t,d:=[],h:=enterH h }) fun
        | .ex .normal s | .ex .ret s=>leaveC P self fn s.t h s.d .returning s.h k
        | .ex (.panic v) s=>leaveC P self fn s.t h s.d (.panicking v false) s.h k
        | _=>none
      | none=>none
    | none=>none
  | .dcall f args m h,k =>
    match P.funcs[f]? with
    | some fn=>match fn.body with
      | some c=>headsK (frame fn args) fun t=>dcodeC P self c { t:=t,d:=[],h:=enterH h } m fun e s m'=>match e with
        | .normal | .ret=>if s.d.isEmpty then resC P s.h.bl s.t fn.results.toList fun _=>exitK h s.h (moVal m') fun h=>k (.dret m' h) else none
        | _=>none
      | none=>none
    | none=>none
  | .round l args h,k =>
    match nthO h.bl l with
    | some (.loop .ready _ t ps assign body _) =>
      if args.size=ps.size then
        headsK ((ps.zip args).foldl (fun t (p,a)=>t.setIfInBounds p a) t).toList fun t =>
        self (.code (some l) assign { t:=t,d:=[],h:=h }) fun
        | .ex .normal s1=>(match nthO s1.h.bl l with
          | some (.loop .ready pend1 t1 ps1 a1 b1 D1) =>
            heapK (s1.h.put l (.loop .busy pend1 t1 ps1 a1 b1 D1)) fun h =>
            self (.code (some l) body { t:=s1.t,d:=s1.d,h:=h }) fun
            | .ex e s2=>(match jumpOf e,nthO s2.h.bl l with
              | some j,some (.loop _ _ t2 ps2 a2 b2 D2)=>heapK (s2.h.put l (.loop (if j.isNone then .ready else .done) j t2 ps2 a2 b2 D2)) fun h=>k (.ret (.bool j.isNone) h)
              | _,_=>none)
            | _=>none
          | _=>none)
        | _=>none
      else none
    | _=>none
theorem code_ex (hs:CpsOk self sd) {rd:Option Nat}{c:Code}{s:St}{f:Ex→St→Option Out}{r:Out}(hc:self (.code rd c s) (fun | .ex e s'=>f e s' | _=>none)=some r) :
    ∃e s',sd (.code rd c s)=some (.ex e s')∧f e s'=some r:=by
  obtain ⟨o,h1,h2⟩:=hs _ _ _ hc
  cases o with
  | ex e s'=>exact ⟨e,s',h1,h2⟩
  | _=>cases h2
theorem stepC_code (hs:CpsOk self sd) {rd:Option Nat}{c:Code}{s:St}{k:Kn}{r:Out}(hc:stepC P self (.code rd c s) k=some r):∃o,stepF drawnX P sd (.code rd c s)=some o∧k o=some r:=by
  cases c with
  | skip=>exact ⟨_,rfl,hc⟩
  | label l=>exact ⟨_,rfl,hc⟩
  | exit id=>exact ⟨_,rfl,hc⟩
  | goto l=>exact ⟨_,rfl,hc⟩
  | ret=>exact ⟨_,rfl,hc⟩
  | seq a b =>
    simp only [stepC]at hc;obtain ⟨o,h1,h2⟩:=hs _ _ _ hc;simp only [stepF,h1]
    cases o with
    | ex e s' =>
      cases e with
      | normal =>
        obtain ⟨e,s2,h3,h4⟩:=code_ex hs h2;simp only [h3];exact ⟨_,rfl,h4⟩
      | _=>exact ⟨_,rfl,h2⟩
    | _=>cases h2
  | cond c x y =>
    simp only [stepC]at hc
    split at hc
    · rename_i hk
      simp only [stepF,hk,if_true]
      split at hc
      · rename_i d
        split at hc
        · rename_i b hl
          have he:evalT s.t (.tmp d)=.bool b:=hl;rw [he]
          cases b with
          | true =>
            rw [cond_true,litK_eq hl]at hc;obtain ⟨e,s2,h3,h4⟩:=code_ex hs hc;simp only [h3];exact ⟨_,rfl,h4⟩
          | false =>
            rw [cond_false,litK_eq hl]at hc;obtain ⟨e,s2,h3,h4⟩:=code_ex hs hc;simp only [h3];exact ⟨_,rfl,h4⟩
        · cases hc
      · split at hc
        · rename_i b he
          rw [he]
          cases b with
          | true =>
            rw [cond_true]at hc;obtain ⟨e,s2,h3,h4⟩:=code_ex hs hc;simp only [h3];exact ⟨_,rfl,h4⟩
          | false =>
            rw [cond_false]at hc;obtain ⟨e,s2,h3,h4⟩:=code_ex hs hc;simp only [h3];exact ⟨_,rfl,h4⟩
        · cases hc
    · cases hc
  | block id c =>
    simp only [stepC]at hc;obtain ⟨o,h1,h2⟩:=hs _ _ _ hc;simp only [stepF,h1]
    cases o with
    | ex e s' =>
      cases e with
      | exit id' =>
        simp only at h2 ⊢
        split at h2
        · rename_i he;rw [if_pos he];exact ⟨_,rfl,h2⟩
        · rename_i he;rw [if_neg he];exact ⟨_,rfl,h2⟩
      | _=>exact ⟨_,rfl,h2⟩
    | _=>cases h2
  | loop c =>
    simp only [stepC]at hc;obtain ⟨o,h1,h2⟩:=hs _ _ _ hc;simp only [stepF,h1]
    cases o with
    | ex e s' =>
      cases e with
      | normal =>
        obtain ⟨e,s2,h3,h4⟩:=code_ex hs h2;simp only [h3];exact ⟨_,rfl,h4⟩
      | _=>exact ⟨_,rfl,h2⟩
    | _=>cases h2
  | region id os dr =>
    cases dr with
    | true =>
      obtain ⟨e,s',h1,h2⟩:=drawnXC_ok (rd:=rd) (id:=id) hs (k:=fun e s'=>k (.ex e s')) (show drawnXC P self os s (fun e s'=>k (.ex e s'))=some r from hc)
      exact ⟨_,by simpa only [stepF,if_true] using h1,h2⟩
    | false =>
      obtain ⟨e,s',h1,h2⟩:=runOpsC_ok hs (k:=fun e s'=>k (.ex e s')) (show runOpsC P self rd os (List.range os.size) s (fun e s'=>k (.ex e s'))=some r from hc)
      exact ⟨_,by simpa only [stepF,Bool.false_eq_true,if_false] using h1,h2⟩
  | rangeFunc g ps assign body =>
    simp only [stepC]at hc
    split at hc
    · rename_i hk
      simp only [stepF,hk,if_true]
      split at hc
      · rename_i f first cap hg
        rw [hg];simp only
        split at hc
        · rename_i hb
          rw [if_pos hb]
          split at hc
          · simp only [pushK_eq,headsK_eq]at hc
            obtain ⟨o,h1,h2⟩:=hs _ _ _ hc;obtain ⟨o',h3,h4⟩:=endLoopC_ok hs h2
            refine ⟨o',?_,h4⟩
            simp only;rw [← h3,← h1]
            congr 4
            apply Array.ext'
            simp
          · rename_i l0
            rw [nthO_eq]at hc
            split at hc
            · rename_i hl
              simp only [pushK_eq,headsK_eq]at hc;obtain ⟨o,h1,h2⟩:=hs _ _ _ hc;obtain ⟨o',h3,h4⟩:=endLoopC_ok hs h2
              refine ⟨o',?_,h4⟩
              simp only [hl];rw [← h3,← h1]
              congr 4
              apply Array.ext'
              simp
            · cases hc
        · cases hc
      · cases hc
    · cases hc
  | scope c=>cases hc
  | refuse w=>cases hc
theorem stepC_ok (hs:CpsOk self sd):CpsOk (stepC P self) (stepF drawnX P sd):=by
  intro t k r hc
  cases t with
  | code rd c s=>exact stepC_code hs hc
  | call f args h =>
    simp only [stepC]at hc;simp only [stepF,forceL1_eq]
    split at hc
    · rename_i fn hf
      rw [hf];simp only
      split at hc
      · rename_i c hcb
        rw [hcb];simp only;rw [headsK_eq]at hc;obtain ⟨o,h1,h2⟩:=hs _ _ _ hc;rw [h1]
        cases o with
        | ex e s =>
          cases e with
          | normal=>exact leaveC_ok hs h2
          | ret=>exact leaveC_ok hs h2
          | panic v=>exact leaveC_ok hs h2
          | _=>cases h2
        | _=>cases h2
      · cases hc
    · cases hc
  | dcall f args m h =>
    simp only [stepC]at hc;simp only [stepF,forceL1_eq]
    split at hc
    · rename_i fn hf
      rw [hf];simp only
      split at hc
      · rename_i c hcb
        rw [hcb];simp only;rw [headsK_eq]at hc;obtain ⟨e,s,m',h1,h2⟩:=dcodeC_ok hs hc;rw [h1]
        cases e with
        | normal =>
          simp only at h2 ⊢
          split at h2
          · rename_i he
            rw [if_pos he];obtain ⟨vs,h3,h4⟩:=resC_ok h2;rw [resB_one h3];exact ⟨_,rfl,exitK_ok h4⟩
          · cases h2
        | ret =>
          simp only at h2 ⊢
          split at h2
          · rename_i he
            rw [if_pos he];obtain ⟨vs,h3,h4⟩:=resC_ok h2;rw [resB_one h3];exact ⟨_,rfl,exitK_ok h4⟩
          · cases h2
        | _=>cases h2
      · cases hc
    · cases hc
  | round l args h =>
    simp only [stepC]at hc;rw [nthO_eq]at hc;simp only [stepF]
    split at hc
    · rename_i x t ps assign body D hl
      rw [hl];simp only
      split at hc
      · rename_i hz
        rw [if_pos hz];rw [headsK_eq]at hc;obtain ⟨o,h1,h2⟩:=hs _ _ _ hc;rw [h1]
        cases o with
        | ex e s1 =>
          cases e with
          | normal =>
            simp only at h2 ⊢;rw [nthO_eq]at h2
            split at h2
            · rename_i pend1 t1 ps1 a1 b1 D1 hl1
              rw [hl1];simp only;rw [heapK_eq]at h2;obtain ⟨e,s2,h3,h4⟩:=code_ex hs h2;rw [h3];simp only;rw [nthO_eq]at h4
              split at h4
              · rename_i j q1 q2 t2 ps2 a2 b2 D2 hj hl2
                rw [hj,hl2];rw [heapK_eq]at h4;exact ⟨_,rfl,h4⟩
              · cases h4
            · cases h2
          | _=>cases h2
        | _=>cases h2
      · cases hc
    · cases hc
def evC (P:Program)(oc:Task→Kn→Option (Option Out)):Nat→SelfC
  | 0,_,_=>none
  | n+1,t,k=>match oc t k with
    | some r=>r
    | none=>stepC P (evC P oc n) t k
def OcOk (oc:Task→Kn→Option (Option Out))(orc:Self):Prop :=
  (∀t k r,oc t k=some (some r)→∃o,orc t=some o∧k o=some r)∧(∀t k,oc t k=none→orc t=none)
theorem evC_ok {oc:Task→Kn→Option (Option Out)}{orc:Self}(ho:OcOk oc orc):∀n,CpsOk (evC P oc n) (iterO orc drawnX P n)
  | 0=>fun _ _ _ h=>by cases h
  | n+1=>by
    intro t k r h;simp only [evC]at h;simp only [iterO]
    split at h
    · rename_i r' hr
      subst h;obtain ⟨o,h1,h2⟩:=ho.1 _ _ _ hr;rw [h1];exact ⟨_,rfl,h2⟩
    · rename_i hr
      rw [ho.2 _ _ hr];exact stepC_ok (evC_ok ho n) t k r h
end
inductive AT where
  | leaf (o:Out)
  | no
  | br (b:Bool) (x y:AT)
def AT.run:AT→Kn→Option Out
  | .leaf o,k=>k o
  | .no,_=>none
  | .br b x y,k=>cond b (x.run k) (y.run k)
def AT.out:AT→Option Out
  | .leaf o=>some o
  | .no=>none
  | .br b x y=>cond b x.out y.out
theorem AT.run_some {k:Kn}{r:Out}:∀{a:AT},a.run k=some r→∃o,a.out=some o∧k o=some r
  | .leaf o,h=>⟨o,rfl,h⟩
  | .no,h=>nomatch h
  | .br b x y,h=>by
    cases b with
    | true=>exact AT.run_some (a:=x) h
    | false=>exact AT.run_some (a:=y) h
abbrev Ans:=Task→Option AT
def Ans.self (a:Ans):Self:=fun t=>match a t with
  | some x=>x.out
  | _=>none
def Ans.c (a:Ans):Task→Kn→Option (Option Out):=fun t k=>match a t with
  | some x=>some (x.run k)
  | none=>none
theorem Ans.oc (a:Ans):OcOk a.c a.self:=by
  constructor
  · intro t k r h
    unfold Ans.c at h;unfold Ans.self
    split at h
    · rename_i x ha
      simp only [Option.some.injEq]at h;rw [ha];exact AT.run_some h
    · cases h
  · intro t k h
    unfold Ans.c at h;unfold Ans.self
    split at h
    · cases h
    · rename_i ha;rw [ha]
def LoopFact (P:Program):Task→Out→Prop
  | .code rd (.loop c) s,.ex e s'=>s.h.base≤s.h.bl.length →
    ∀(K:Nat→Prop) (w0:World) (φ:Phi) (w:World) (a:Act) (F:Fence) (n:Nat),Inv K w0 φ s.h.bl w→VRs φ s.t.toArray a.tmps→DRs φ s.d a.defers→FenceOk φ rd F→wpLoopIn F n P c (CodeR K w0 φ e s') a w
  | _,_=>True
def Fact (P:Program)(t:Task)(o:Out):Prop:=TaskOk P t o∧LoopFact P t o
def Known (P:Program)(a:Ans):Prop:=∀t x o,a t=some x→x.out=some o→Fact P t o
theorem Ans.self_iff {a:Ans}{t:Task}{o:Out}:a.self t=some o↔∃x,a t=some x∧x.out=some o:=by
  unfold Ans.self
  split
  · rename_i x h;rw [h];simp
  · rename_i h
    constructor
    · intro h';cases h'
    · rintro ⟨x,hx,_⟩;exact (h _ hx).elim
theorem Known.selfOk {P:Program}{a:Ans}(h:Known P a):SelfOk P a.self:=fun t o ht=>let ⟨x,h1,h2⟩:=Ans.self_iff.1 ht;(h t x o h1 h2).1
theorem Known.loopOk {P:Program}{a:Ans}(h:Known P a):LoopOk P a.self:=fun _ _ _ _ _ hc hb=>let ⟨x,h1,h2⟩:=Ans.self_iff.1 hc;(h _ x _ h1 h2).2 hb
section
variable {P:Program}(hN:NoNG P) (hm:P.follows .mixedOrders=true)
include hN hm
end
def eqCode (c c':Code):Bool:=@decide (c=c') (Classical.propDecidable _)
def obKept (n:Nat) (ob ob':Ob):Bool:=(!ob'.live||ob.live)&&(!ob'.rw||ob.rw)&&obSc n ob'
inductive ObsKept (n:Nat):List Ob→List Ob→Prop
  | nil:ObsKept n [] []
  | cons {o o':Ob} {l l':List Ob} (h:obKept n o o'=true) (r:ObsKept n l l'):ObsKept n (o::l) (o'::l')
theorem ObsKept.len {n:Nat} {l l':List Ob}(h:ObsKept n l l'):l'.length=l.length:=by
  induction h with
  | nil=>rfl
  | cons _ _ ih=>simp [ih]
theorem ObsKept.get {n:Nat} {l l':List Ob}(h:ObsKept n l l'):∀{b:Nat} {ob':Ob},l'[b]?=some ob'→∃ob,l[b]?=some ob∧(ob'.live=true→ob.live=true)∧(ob'.rw=true→ob.rw=true)∧obSc n ob'=true:=by
  induction h with
  | nil=>intro b ob' h;simp at h
  | @cons o o' l l' h _ ih =>
    intro b ob' hb
    cases b with
    | zero =>
      simp only [List.getElem?_cons_zero,Option.some.injEq]at hb
      subst hb;simp only [obKept,Bool.and_eq_true,Bool.or_eq_true,Bool.not_eq_true']at h
      refine ⟨o,rfl,fun hl=>?_,fun hr=>?_,h.2⟩
      · rcases h.1.1 with h1 | h1
        · rw [hl]at h1;cases h1
        · exact h1
      · rcases h.1.2 with h1 | h1
        · rw [hr]at h1;cases h1
        · exact h1
    | succ b =>
      simp only [List.getElem?_cons_succ]at hb ⊢
      exact ih hb
section
variable {P:Program}{K:Nat→Prop} {w0 w w':World} {φ φ':Phi}{H0 G H1 X:List Ob}
def RwAt (φ:Phi)(H:List Ob)(k:Nat):Prop:=∃(b:Nat) (ob:Ob) (x:Nat×Nat×Nat),H[b]?=some ob∧ob.rw=true∧φ b=some x∧x.1=k
theorem get_left {b:Nat}{ob:Ob}(h:H0[b]?=some ob):(H0++G)[b]?=some ob:=by
  rw [List.getElem?_append_left (List.getElem?_eq_some_iff.1 h).1];exact h
theorem Inv.narrow (hI:Inv K w0 φ (H0++G) w)(hsc:∀(b:Nat)(ob:Ob),H0[b]?=some ob→obSc H0.length ob=true) :
    Inv (fun k=>k<w.heap.size∧¬RwAt φ H0 k∧φ.z k=none) w (cut φ H0.length) H0 w:=by
  refine ⟨?_,?_,?_,fun _ _=>rfl,fun _ h=>h.1,Nat.le_refl _,rfl,rfl,rfl,fun b hb=>cut_ge hb,hI.frz,?_,fun k hk=>hk.2.2⟩
  · intro b ob hb hl
    obtain ⟨B,base,tot,h1,h2⟩:=hI.obs b ob (get_left hb) hl
    exact ⟨B,base,tot,(cut_lt (List.getElem?_eq_some_iff.1 hb).1).trans h1,obSc_cut (hsc b ob hb) h2⟩
  · intro b b' ob ob' x y hne hb hb' hrw hl hx hy
    rw [cut_lt (List.getElem?_eq_some_iff.1 hb).1]at hx
    rw [cut_lt (List.getElem?_eq_some_iff.1 hb').1]at hy
    exact hI.sep b b' ob ob' x y hne (get_left hb) (get_left hb') hrw hl hx hy
  · intro b ob x hb hrw hx hk
    rw [cut_lt (List.getElem?_eq_some_iff.1 hb).1]at hx
    exact hk.2.1 ⟨b,ob,x,hb,hrw,hx,rfl⟩
  · intro b ob x hb hrw hx
    rw [cut_lt (List.getElem?_eq_some_iff.1 hb).1]at hx
    exact hI.zsep b ob x (get_left hb) hrw hx
theorem Inv.widen (hI:Inv K w0 φ (H0++G) w)(hF:Inv (fun k=>k<w.heap.size∧¬RwAt φ H0 k∧φ.z k=none) w φ' (H1++X) w')(hle:le (cut φ H0.length) φ')(hk:ObsKept H0.length H0 H1) :
    ∃φ'',le φ φ''∧le (cut φ' H0.length) φ''∧Inv K w0 φ'' (H1++G) w':=by
  have hlen:=hk.len
  refine ⟨⟨fun b=>if b<H0.length then φ' b else φ b,φ'.z⟩,⟨?_,hle.zz⟩,⟨?_,fun _ _ h=>h⟩,?_⟩
  · intro b x hx
    show (if b<H0.length then φ' b else φ b)=some x
    split
    · rename_i hlt;exact hle b x ((cut_lt hlt).trans hx)
    · exact hx
  · intro b x hx
    show (if b<H0.length then φ' b else φ b)=some x
    split
    · rename_i hlt;rwa [cut_lt hlt]at hx
    · rename_i hge;rw [cut_ge (by omega)]at hx;cases hx
  have hφlt:∀{b:Nat},b<H0.length→(if b<H0.length then φ' b else φ b)=φ' b:=fun h=>if_pos h
  have hφge:∀{b:Nat},¬b<H0.length→(if b<H0.length then φ' b else φ b)=φ b:=fun h=>if_neg h
  have hleφ:le φ ⟨fun b=>if b<H0.length then φ' b else φ b,φ'.z⟩:=by
    refine ⟨?_,hle.zz⟩
    intro b x hx
    show (if b<H0.length then φ' b else φ b)=some x
    split
    · rename_i hlt;exact hle b x ((cut_lt hlt).trans hx)
    · exact hx
  have hlec:le (cut φ' H0.length) ⟨fun b=>if b<H0.length then φ' b else φ b,φ'.z⟩:=by
    refine ⟨?_,fun _ _ h=>h⟩
    intro b x hx
    show (if b<H0.length then φ' b else φ b)=some x
    split
    · rename_i hlt;rwa [cut_lt hlt]at hx
    · rename_i hge;rw [cut_ge (by omega)]at hx;cases hx
  have hcase:∀{b:Nat} {ob:Ob},(H1++G)[b]?=some ob→(b<H0.length∧H1[b]?=some ob)∨(¬b<H0.length∧(H0++G)[b]?=some ob):=by
    intro b ob hb
    by_cases hlt:b<H0.length
    · rw [List.getElem?_append_left (by omega)]at hb;exact .inl ⟨hlt,hb⟩
    · rw [List.getElem?_append_right (by omega)]at hb
      refine .inr ⟨hlt,?_⟩
      rw [List.getElem?_append_right (by omega),← hlen];exact hb
  have hold:∀k,k<w.heap.size→¬RwAt φ H0 k→w'.heap[k]?=w.heap[k]?:=fun k h1 h2=>by
    cases hz:φ.z k with
    | none=>exact hF.keep k ⟨h1,h2,hz⟩
    | some o=>rw [hI.frz k o hz,hF.frz k o (hle.zz k o hz)]
  have hwas:∀{b:Nat} {ob:Ob} {x:Nat×Nat×Nat},H1[b]?=some ob→ob.live=true→φ' b=some x→φ b=some x:=by
    intro b ob x hb hl hx;obtain ⟨ob0,h0,hl0,_,_⟩:=hk.get hb;obtain ⟨B,base,tot,h1,_⟩:=hI.obs b ob0 (get_left h0) (hl0 hl)
    have:=hle b _ ((cut_lt (List.getElem?_eq_some_iff.1 h0).1).trans h1)
    rw [hx]at this;rw [h1,this]
  refine ⟨?_,?_,?_,?_,hI.klt,Nat.le_trans hI.size hF.size,hF.os.trans hI.os,hF.tape.trans hI.tape,hF.output.trans hI.output,?_,hF.frz,?_,?_⟩
  · intro b ob hb hl
    rcases hcase hb with ⟨hlt,h1⟩ | ⟨hge,h1⟩
    · obtain ⟨B,base,tot,h2,h3⟩:=hF.obs b ob (get_left h1) hl
      obtain ⟨_,_,_,_,hsc⟩:=hk.get h1;exact ⟨B,base,tot,(hφlt hlt).trans h2,(obSc_cut hsc h3).keep hlec rfl⟩
    · obtain ⟨B,base,tot,h2,h3⟩:=hI.obs b ob h1 hl
      refine ⟨B,base,tot,(hφge hge).trans h2,h3.keep hleφ (hold B (h3.lt hl) ?_)⟩
      rintro ⟨b0,ob0,x,h4,h5,h6,h7⟩
      have hb0:=(List.getElem?_eq_some_iff.1 h4).1
      exact hI.sep b0 b ob0 ob x _ (by omega) (get_left h4) h1 h5 hl h6 h2 h7
  · intro b b' ob ob' x y hne hb hb' hrw hl hx hy
    rcases hcase hb with ⟨hlt,h1⟩ | ⟨hge,h1⟩
    · simp only [hφlt hlt]at hx
      obtain ⟨ob0,h0,_,hrw0,_⟩:=hk.get h1;have hx0:=hwas h1 (Ob.live_of_rw hrw) hx
      rcases hcase hb' with ⟨hlt',h2⟩ | ⟨hge',h2⟩
      · simp only [hφlt hlt']at hy
        exact hF.sep b b' ob ob' x y hne (get_left h1) (get_left h2) hrw hl hx hy
      · simp only [hφge hge']at hy
        exact hI.sep b b' ob0 ob' x y hne (get_left h0) h2 (hrw0 hrw) hl hx0 hy
    · simp only [hφge hge]at hx
      rcases hcase hb' with ⟨hlt',h2⟩ | ⟨hge',h2⟩
      · simp only [hφlt hlt']at hy
        obtain ⟨ob0,h0,hl0,_,_⟩:=hk.get h2;exact hI.sep b b' ob ob0 x y hne h1 (get_left h0) hrw (hl0 hl) hx (hwas h2 hl hy)
      · simp only [hφge hge']at hy
        exact hI.sep b b' ob ob' x y hne h1 h2 hrw hl hx hy
  · intro b ob x hb hrw hx
    rcases hcase hb with ⟨hlt,h1⟩ | ⟨hge,h1⟩
    · simp only [hφlt hlt]at hx
      obtain ⟨ob0,h0,_,hrw0,_⟩:=hk.get h1;exact hI.prot b ob0 x (get_left h0) (hrw0 hrw) (hwas h1 (Ob.live_of_rw hrw) hx)
    · simp only [hφge hge]at hx
      exact hI.prot b ob x h1 hrw hx
  · intro k hkk
    have h1:=hI.klt k hkk;have h2:=hI.size
    rw [hold k (by omega) ?_]
    · exact hI.keep k hkk
    · rintro ⟨b0,ob0,x,h4,h5,h6,h7⟩
      exact hI.prot b0 ob0 x (get_left h4) h5 h6 (h7 ▸ hkk)
  · intro b hb
    simp only [List.length_append]at hb
    have hge:¬b<H0.length:=by omega
    simp only [hφge hge]
    exact hI.top b (by simp only [List.length_append];omega)
  · intro b ob x hb hrw hx
    rcases hcase hb with ⟨hlt,h1⟩ | ⟨hge,h1⟩
    · simp only [hφlt hlt]at hx
      exact hF.zsep b ob x (get_left h1) hrw hx
    · simp only [hφge hge]at hx
      obtain ⟨B,base,tot,h2,h3⟩:=hI.obs b ob h1 (Ob.live_of_rw hrw);rw [h2]at hx;cases hx
      refine hF.zk B ⟨h3.lt (Ob.live_of_rw hrw),?_,hI.zsep b ob _ h1 hrw h2⟩
      rintro ⟨b0,ob0,y,h4,h5,h6,h7⟩
      have hb0:=(List.getElem?_eq_some_iff.1 h4).1
      exact hI.sep b0 b ob0 ob y _ (by omega) (get_left h4) h1 h5 (Ob.live_of_rw hrw) h6 h2 h7
  · intro k hkk
    have h1:=hI.klt k hkk;have h2:=hI.size
    refine hF.zk k ⟨by omega,?_,hI.zk k hkk⟩
    rintro ⟨b0,ob0,x,h4,h5,h6,h7⟩
    exact hI.prot b0 ob0 x (get_left h4) h5 h6 (h7 ▸ hkk)
end
def fz0:Value→Bool
  | .func (.via 0 ⟨[]⟩ 0 _) _ _=>true
  | v=>g0 v
def allFz (c:Array Value):Bool:=c.toList.all fz0
def frz1 (m z:Nat)(bl:List Ob)(v:Value)(k:Value→Option Out):Option Out :=
  match v with
  | .slice (some ⟨b,off,none⟩) len sz =>
    match Nat.ble m b,nthO bl b with
    | true,some (.cells c false)=>cond (allFz c&&decide (off+len*sz≤c.size)) (k (lstV c off len sz)) none
    | _,_=>none
  | .pointer (some ⟨b,off,none⟩) =>
    match Nat.ble m b,nthO bl b with
    | true,some (.cells c false)=>cond (allFz c) (k (dptV c off)) none
    | _,_=>none
  | .slice none 0 0=>k (lstV ⟨[]⟩ 0 0 z)
  | v=>if fz0 v then k v else none
def frzL (m z:Nat)(bl:List Ob):List Value→(List Value→Option Out)→Option Out
  | [],k=>k []
  | v::r,k=>frz1 m z bl v fun v=>frzL m z bl r fun r=>k (v::r)
def frzA (m z:Nat)(bl:List Ob)(v:Value)(k:Value→Option Out):Option Out :=
  match v with
  | .agg ⟨l⟩=>frzL m z bl l fun l=>k (.agg ⟨l⟩)
  | .iface t v=>if gA v then k (.iface t v) else none
  | .func (.func g) ⟨l⟩ ⟨n⟩=>frzL m z bl l fun l=>frzL m z bl n fun n=>k (.func (.func g) ⟨l⟩ ⟨n⟩)
  | v=>frz1 m z bl v k
def frzT (bl:List Ob):List Nat→List Value→(List Value→Option Out)→Option Out
  | _,[],k=>k []
  | zs,v::r,k=>frzA 0 (zs.headD 0) bl v fun v=>frzT bl zs.tail r fun r=>k (v::r)
def frzV (zs:List Nat)(bl:List Ob)(v:Value)(k:Value→Option Out):Option Out :=
  match v with
  | .tuple ⟨x::l⟩=>frzT bl zs (x::l) fun l=>k (.tuple ⟨l⟩)
  | v=>frzA 0 (zs.headD 0) bl v k
def frzK (zs:List Nat):Kn
  | .ret v h=>frzV zs h.bl v fun v=>some (.ret v ⟨[],0,[]⟩)
  | _=>none
structure Made (m:Nat) (z:Nat→Option Obj) (φ:Phi) (X:List Ob) (w:World):Prop where
  le:∀B o,φ.z B=some o→z B=some o
  obs:∀b c,X[b]?=some (.cells c false)→m≤b→∃B base tot C el fr,φ b=some (B,base,tot)∧z B=some (.cells C el fr)∧base+c.size≤C.size∧(∀(i:Nat) (v:Value),c[i]?=some v→∃v',C[base+i]?=some v'∧VR φ v v')
section
variable {K:Nat→Prop}{w0 w:World} {φ:Phi}{X:List Ob}{z:Nat→Option Obj}{m:Nat}
theorem fz0_fr (h:Made m z φ X w) {v v':Value}(hf:fz0 v=true) (hv:VR φ v v'):FR z v v':=by
  unfold fz0 at hf
  split at hf
  · cases hv with
    | fn hg=>cases hg
    | fz hh=>exact hh.mono h.le
  · rw [g0_eq hf hv];exact .gnd hf
theorem cells_fr (h:Made m z φ X w) {c C:Array Value}{base:Nat}(hc:allFz c=true) (h2:∀(i:Nat) (v:Value),c[i]?=some v→∃v',C[base+i]?=some v'∧VR φ v v') :
    ∀i,i<c.size→FR z (c.getD i undef) (C.getD (base+i) undef):=by
  intro i hi
  have h1:c[i]?=some c[i]:=Array.getElem?_eq_getElem hi
  obtain ⟨v',h3,h4⟩:=h2 i _ h1;rw [Array.getD_eq_getD_getElem?,Array.getD_eq_getD_getElem?,h1,h3];unfold allFz at hc;rw [List.all_eq_true]at hc
  exact fz0_fr h (hc _ (by rw [Array.mem_toList_iff];exact Array.mem_of_getElem? h1)) h4
theorem frz1_ok {y:Nat}(h:Made m z φ X w) {v v':Value}{k:Value→Option Out}{r:Out}(hk:frz1 m y X v k=some r) (hv:VR φ v v'):∃u,FR z u v'∧k u=some r:=by
  unfold frz1 at hk
  split at hk
  · rename_i b off len sz
    rw [nthO_eq]at hk
    split at hk
    · rename_i c hmb hb
      obtain ⟨h1,h2⟩:=cond_some hk;simp only [Bool.and_eq_true,decide_eq_true_eq]at h1;obtain ⟨B,base,tot,C,el,fr,h3,hz,h8,h6⟩:=h.obs b _ hb (Nat.le_of_ble_eq_true hmb)
      cases hv with
      | sliceZ _ a' k'=>exact ⟨_,.lstZ _ _ _ _,h2⟩
      | slice hφ hl hc =>
        rw [h3]at hφ;cases hφ;exact ⟨_,.lst hz h8 (cells_fr h h1.1 h6) hl h1.2,h2⟩
    · cases hk
  · rename_i b off
    rw [nthO_eq]at hk
    split at hk
    · rename_i c hmb hb
      obtain ⟨h1,h2⟩:=cond_some hk;obtain ⟨B,base,tot,C,el,fr,h3,hz,h8,h6⟩:=h.obs b _ hb (Nat.le_of_ble_eq_true hmb)
      cases hv with
      | ptr hφ =>
        rw [h3]at hφ;cases hφ;exact ⟨_,.dpt hz h8 (cells_fr h h1 h6),h2⟩
    · cases hk
  · cases hv
    exact ⟨_,.lstZ _ _ _ _,hk⟩
  · split at hk
    · rename_i hf
      exact ⟨_,fz0_fr h hf hv,hk⟩
    · cases hk
inductive FRl (z:Nat→Option Obj):List Value→List Value→Prop
  | nil:FRl z [] []
  | cons {v v':Value} {l l':List Value} (h:FR z v v') (r:FRl z l l'):FRl z (v::l) (v'::l')
theorem FRl.agg {z:Nat→Option Obj} {l l':List Value}(h:FRl z l l'):l.length=l'.length∧∀i,FR z ((⟨l⟩:Array Value).getD i undef) ((⟨l'⟩:Array Value).getD i undef)∨l.length≤i:=by
  induction h with
  | nil=>exact ⟨rfl,fun i=>.inr (Nat.zero_le _)⟩
  | cons h _ ih =>
    refine ⟨by simp [ih.1],fun i=>?_⟩
    cases i with
    | zero=>exact .inl (by simpa [Array.getD_eq_getD_getElem?] using h)
    | succ i =>
      rcases ih.2 i with h1 | h1
      · exact .inl (by simpa [Array.getD_eq_getD_getElem?] using h1)
      · exact .inr (by simp;omega)
theorem FRl.fr {z:Nat→Option Obj} {l l':List Value}(h:FRl z l l'):FR z (.agg ⟨l⟩) (.agg ⟨l'⟩):=by
  refine .agg (by simpa using h.agg.1) fun i hi=>?_
  rcases h.agg.2 i with h1 | h1
  · exact h1
  · simp at hi;omega
theorem frzL_ok {y:Nat}(h:Made m z φ X w) {r:Out}:∀{l l':List Value}{k:List Value→Option Out},frzL m y X l k=some r→VRl φ l l'→∃u,FRl z u l'∧k u=some r
  | [],_,k,hk,hv=>by cases hv;exact ⟨[],.nil,hk⟩
  | v::l,_,k,hk,hv=>by
    cases hv with
    | cons hv hr =>
      obtain ⟨u,h1,h2⟩:=frz1_ok h hk hv;obtain ⟨us,h3,h4⟩:=frzL_ok h h2 hr;exact ⟨u::us,.cons h1 h3,h4⟩
theorem frzA_ok {ψ:Phi}{y:Nat}(h:Made m ψ.z φ X w) {v v':Value}{k:Value→Option Out}{r:Out}(hk:frzA m y X v k=some r) (hv:VR φ v v'):∃u,VR ψ u v'∧k u=some r:=by
  unfold frzA at hk
  split at hk
  · rename_i l
    obtain ⟨⟨ys⟩,rfl,hs⟩:=hv.agg_inv;obtain ⟨us,h1,h2⟩:=frzL_ok h hk hs.toList;exact ⟨_,h1.fr.vr,h2⟩
  · split at hk
    · rename_i hg
      cases hv with
      | iface _ hv=>rw [gA_eq hg hv];exact ⟨_,.iface _ (gA_refl hg),hk⟩
    · cases hk
  · rename_i g l n
    cases hv with
    | fn hg h1 h2 h3 h4 =>
      obtain ⟨us,k1,k2⟩:=frzL_ok h hk (VRs.toList (VRs.of h1 h2));obtain ⟨ws,k3,k4⟩:=frzL_ok h k2 (VRs.toList (VRs.of h3 h4))
      have hh:∀{us:List Value} {ys:Array Value},FRl ψ.z us ys.toList→(⟨us⟩:Array Value).size=ys.size∧∀i,i<(⟨us⟩:Array Value).size→FR ψ.z ((⟨us⟩:Array Value).getD i undef) (ys.getD i undef):=by
        intro us ys hf;obtain ⟨ys⟩:=ys
        refine ⟨by simpa using hf.agg.1,fun i hi=>?_⟩
        rcases hf.agg.2 i with h5 | h5
        · exact h5
        · simp at hi;omega
      exact ⟨_,(FR.fn (hh k1).1 (hh k1).2 (hh k3).1 (hh k3).2).vr,k4⟩
  · obtain ⟨u,h1,h2⟩:=frz1_ok h hk hv
    exact ⟨u,h1.vr,h2⟩
theorem frzT_ok {ψ:Phi}(h:Made 0 ψ.z φ X w) {r:Out}:∀{zs:List Nat} {l l':List Value}{k:List Value→Option Out},frzT X zs l k=some r→VRl φ l l'→∃u,VRl ψ u l'∧k u=some r
  | _,[],_,k,hk,hv=>by cases hv;exact ⟨[],.nil,hk⟩
  | _,v::l,_,k,hk,hv=>by
    cases hv with
    | cons hv hr =>
      obtain ⟨u,h1,h2⟩:=frzA_ok h hk hv;obtain ⟨us,h3,h4⟩:=frzT_ok h h2 hr;exact ⟨u::us,.cons h1 h3,h4⟩
theorem VRl.vrs {l l':List Value}(h:VRl φ l l'):VRs φ ⟨l⟩ ⟨l'⟩:=by
  induction h with
  | nil=>exact VRs.nil φ
  | cons h _ ih =>
    intro i
    cases i with
    | zero=>simpa using OR.some h
    | succ i=>have:=ih i;simpa using this
theorem frzV_ok {ψ:Phi}{zs:List Nat}(h:Made 0 ψ.z φ X w) {v v':Value}{k:Value→Option Out}{r:Out}(hk:frzV zs X v k=some r) (hv:VR φ v v'):∃u,VR ψ u v'∧k u=some r:=by
  unfold frzV at hk
  split at hk
  · rename_i x l
    obtain ⟨⟨ys⟩,rfl,hs⟩:=hv.tuple_inv rfl;obtain ⟨us,h1,h2⟩:=frzT_ok h hk hs.toList;exact ⟨_,h1.vrs.tuple,h2⟩
  · exact frzA_ok h hk hv
open Classical in
def zF (φ:Phi)(X:List Ob)(m:Nat)(w:World):Nat→Option Obj:=fun B=>if ∃b ob x,m≤b∧X[b]?=some ob∧ob.rw=true∧φ b=some x∧x.1=B then w.heap[B]? else φ.z B
theorem zF_made (hF:Inv K w0 φ X w)(m:Nat):Made m (zF φ X m w) φ X w:=by
  refine ⟨fun B o hB=>?_,fun b c hb hmb=>?_⟩
  · unfold zF
    split
    · exact hF.frz B o hB
    · exact hB
  · obtain ⟨B,base,tot,h3,C,el,fr,h5,h6,h7⟩:=hF.obs b _ hb rfl
    obtain ⟨h8,h9,_⟩:=h7 rfl
    refine ⟨B,base,tot,C,el,fr,h3,?_,by omega,h6⟩
    unfold zF;rw [if_pos ⟨b,_,_,hmb,hb,rfl,h3,rfl⟩];exact h5
theorem zF_k (hF:Inv K w0 φ X w)(m:Nat) {k:Nat}(hk:K k):zF φ X m w k=none:=by
  unfold zF;rw [if_neg]
  · exact hF.zk k hk
  · rintro ⟨b,ob,x,_,h2,h3,h4,rfl⟩
    exact hF.prot b ob x h2 h3 h4 hk
theorem Inv.freeze (hF:Inv K w0 φ X w) {H1:List Ob}{k:Nat}(hH:∀(b:Nat) (ob:Ob),H1[b]?=some ob→X[b]?=some ob∧obSc H1.length ob=true) :
    Inv K w0 ⟨fun b=>if b<H1.length+k then φ b else none,zF φ X H1.length w⟩ (H1++List.replicate k .dead) w:=by
  have hm:=zF_made hF H1.length
  have hget:∀{b:Nat} {ob:Ob},(H1++List.replicate k .dead)[b]?=some ob→ob.live=true→b<H1.length∧X[b]?=some ob∧obSc H1.length ob=true:=by
    intro b ob hb hl
    rcases Nat.lt_or_ge b H1.length with h | h
    · rw [List.getElem?_append_left h]at hb
      exact ⟨h,hH b ob hb⟩
    · rw [List.getElem?_append_right h,List.getElem?_replicate]at hb
      split at hb
      · simp only [Option.some.injEq]at hb;subst hb;cases hl
      · cases hb
  have hlec:Gi.le (cut φ H1.length) ⟨fun b=>if b<H1.length+k then φ b else none,zF φ X H1.length w⟩:=by
    refine ⟨fun b x hx=>?_,hm.le⟩
    rcases Nat.lt_or_ge b H1.length with h | h
    · rw [cut_lt h]at hx
      show (if b<H1.length+k then φ b else none)=some x
      rw [if_pos (by omega)];exact hx
    · rw [cut_ge h]at hx;cases hx
  have hx:∀{b:Nat} {x:Nat×Nat×Nat},b<H1.length→(⟨fun b=>if b<H1.length+k then φ b else none,zF φ X H1.length w⟩:Phi) b=some x→φ b=some x:=by
    intro b x hb h
    have h':(if b<H1.length+k then φ b else none)=some x:=h
    rwa [if_pos (by omega)]at h'
  refine ⟨?_,?_,?_,hF.keep,hF.klt,hF.size,hF.os,hF.tape,hF.output,?_,?_,?_,fun k hk=>zF_k hF _ hk⟩
  · intro b ob hb hl
    obtain ⟨h1,h2,h3⟩:=hget hb hl;obtain ⟨B,base,tot,h4,h5⟩:=hF.obs b ob h2 hl;exact ⟨B,base,tot,hlec b _ ((cut_lt h1).trans h4),(obSc_cut h3 h5).keep hlec rfl⟩
  · intro b b' ob ob' x y hne hb hb' hrw hl hx1 hy1
    obtain ⟨h1,h2,_⟩:=hget hb (Ob.live_of_rw hrw);obtain ⟨h3,h4,_⟩:=hget hb' hl;exact hF.sep b b' ob ob' x y hne h2 h4 hrw hl (hx h1 hx1) (hx h3 hy1)
  · intro b ob x hb hrw hx1
    obtain ⟨h1,h2,_⟩:=hget hb (Ob.live_of_rw hrw);exact hF.prot b ob x h2 hrw (hx h1 hx1)
  · intro b hb
    simp only [List.length_append,List.length_replicate]at hb
    show (if b<H1.length+k then φ b else none)=none
    rw [if_neg (by omega)]
  · intro B o hB
    have hB':zF φ X H1.length w B=some o:=hB;unfold zF at hB'
    split at hB'
    · exact hB'
    · exact hF.frz B o hB'
  · intro b ob x hb hrw hx1
    obtain ⟨h1,h2,_⟩:=hget hb (Ob.live_of_rw hrw);have hx2:=hx h1 hx1
    show zF φ X H1.length w x.1=none
    unfold zF;rw [if_neg]
    · exact hF.zsep b ob x h2 hrw hx2
    · rintro ⟨b',ob',x',k1,k2,k3,k4,k5⟩
      exact hF.sep b b' ob ob' x x' (by omega) h2 k2 hrw (Ob.live_of_rw k3) hx2 k4 k5.symm
end
section
variable {P:Program}
def pureA (v:Value):Bool:=scT 0 v
theorem Fact.lift {zs:List Nat}{f:FuncId}{args:Array Value}{v u:Value}{h1:Hp}(hf:Fact P (.call f args ⟨[],0,[]⟩) (.ret v h1)) (hfz:frzK zs (.ret v h1)=some (.ret u ⟨[],0,[]⟩))
    (ha:args.toList.all pureA=true) (h:Hp):Fact P (.call f args h) (.ret u h):=by
  obtain ⟨_,hh⟩:=hf.1 (Nat.le_refl _)
  refine ⟨fun hb=>⟨Pres.refl _,?_⟩,trivial⟩
  intro K w0 φ w args' n hI hA;have hI':Inv K w0 φ ([]++h.bl) w:=hI
  have hN:=hI'.narrow (H0:=[]) (fun b ob h=>by simp at h)
  have hA1:VRs (cut φ ([]:List Ob).length) args args':=VRs.of hA.size fun i hi=>scT_cut (all_getD (p:=pureA) ha hi) (hA.getD i)
  refine (hh _ w _ w args' n hN hA1).mono ?_
  intro e w' he
  cases e with
  | returned v' =>
    obtain ⟨φ',hle,hv',hF⟩:=he
    have hfz':frzV zs h1.bl v (fun v=>some (.ret v ⟨[],0,[]⟩))=some (.ret u ⟨[],0,[]⟩):=hfz
    have hZ:=hF.freeze (H1:=[]) (k:=0) (fun b ob h=>by simp at h)
    obtain ⟨u',k1,k2⟩:=frzV_ok (ψ:=⟨fun b=>if b<([]:List Ob).length+0 then φ' b else none,zF φ' h1.bl 0 w'⟩) (zF_made hF 0) hfz' hv'
    simp only [Option.some.injEq,Out.ret.injEq,and_true]at k2;subst k2
    have hle2:le (cut φ ([]:List Ob).length) ⟨fun b=>if b<([]:List Ob).length+0 then φ' b else none,zF φ' h1.bl 0 w'⟩:=by
      refine ⟨fun b x hx=>?_,fun B o hB=>(zF_made hF 0).le B o (hle.zz B o hB)⟩
      rw [cut_ge (show ([]:List Ob).length≤b from Nat.zero_le b)]at hx;cases hx
    obtain ⟨φ'',q1,q2,q3⟩:=hI'.widen (H1:=[]) (X:=[]) hZ hle2 .nil
    refine ⟨φ'',q1,?_,q3⟩
    have hc:cut ⟨fun b=>if b<([]:List Ob).length+0 then φ' b else none,zF φ' h1.bl ([]:List Ob).length w'⟩ ([]:List Ob).length=⟨fun b=>if b<([]:List Ob).length+0 then φ' b else none,zF φ' h1.bl 0 w'⟩:=by
      unfold cut
      simp
    rw [hc]at q2;exact k1.mono q2
  | panicked ch=>exact he.elim
  | outgrown=>exact he.elim
def zAll (w:World):Phi:=⟨fun _=>none,fun B=>w.heap[B]?⟩
theorem inv_all (w:World):Inv (fun _=>False) w (zAll w) [] w :=
  ⟨fun b ob h=>by simp at h,fun b b' ob ob' x y _ h=>by simp at h,fun b ob x h=>by simp at h,fun _ h=>h.elim,fun _ h=>h.elim,Nat.le_refl _,rfl,rfl,rfl,fun _ _=>rfl,fun _ _ h=>h,fun b ob x h=>by simp at h,fun _ h=>h.elim⟩
theorem calls_frozen {w:World}{f:FuncId} {args args':Array Value}{v:Value} {h':Hp}(hf:Fact P (.call f args ⟨[],0,[]⟩) (.ret v h')) (hg:gr v=true) (hA:VRs (zAll w) args args') :
    Calls P f args' w fun e w'=>e=.returned v∧Below w.heap.size w w':=by
  obtain ⟨_,hh⟩:=hf.1 (Nat.le_refl _)
  refine callsIn_wide.1 ((hh _ w (zAll w) w args' 0 (inv_all w) hA).mono ?_)
  intro e w' he
  cases e with
  | returned v' =>
    obtain ⟨φ',hle,hv,hI⟩:=he
    refine ⟨by rw [gr_eq hg hv],hI.os,hI.tape,hI.output,hI.size,fun k hk=>?_⟩
    have h1:(zAll w).z k=some w.heap[k]:=by show w.heap[k]?=_;rw [Array.getElem?_eq_getElem hk]
    rw [hI.frz k _ (hle.zz k _ h1),Array.getElem?_eq_getElem hk]
  | panicked ch=>exact he.elim
  | outgrown=>exact he.elim
end
inductive RT (A:Type) where
  | leaf (a:A)
  | no
  | br (b:Bool) (x y:RT A)
  | sw (b b':Bool) (h:b=b') (x y:RT A)
def mq {R:Type}(x:Int)(y:RT R):RT R:=.br (decide (x=x)) y .no
theorem bq {α β:Type}{o:Option α}{f:α→Option β}{r:β}(h:o.bind f=some r):∃a,o=some a∧f a=some r:=Option.bind_eq_some_iff.1 h
section
variable {A:Type}
def RT.val:RT A→Option A
  | .leaf a=>some a
  | .no=>none
  | .br b x y=>cond b x.val y.val
  | .sw _ b _ x y=>cond b x.val y.val
def RT.out (enc:A→Out):RT A→Option Out
  | .leaf a=>some (enc a)
  | .no=>none
  | .br b x y=>cond b (x.out enc) (y.out enc)
  | .sw b _ _ x y=>cond b (x.out enc) (y.out enc)
theorem RT.out_val (enc:A→Out):∀r:RT A,r.out enc=r.val.map enc
  | .leaf _=>rfl
  | .no=>rfl
  | .br b x y=>by
    cases b
    · exact RT.out_val enc y
    · exact RT.out_val enc x
  | .sw b b' h x y=>by
    subst h
    cases b
    · exact RT.out_val enc y
    · exact RT.out_val enc x
end
section
variable {X D:Type}
def loopAns (c0:Code)(dec:Task→Option (Code×X))(alt:X→List Value→AT)(J:Task→List Value):Ans:=fun t=>match dec t with
  | some (c,x)=>some (.br (eqCode c c0) (alt x (J t)) .no)
  | none=>none
def fnAns (dec:Task→Option (X×Hp))(alt:X→Hp→AT):Ans:=fun t=>match dec t with
  | some (x,h)=>some (alt x h)
  | none=>none
section
variable {P:Program}(hN:NoNG P) (hm:P.follows .mixedOrders=true)
include hN hm
theorem Known.factK {a:Ans}(hk:Known P a) {n:Nat}{t:Task}{k:Kn}{r:Out}(h:evC P a.c n t k=some r):∃o,k o=some r∧Fact P t o:=by
  obtain ⟨o',h1,h2⟩:=evC_ok (P:=P) a.oc n t k r h
  have hd:DrawnOk P drawnX:=fun self hs rd id os s o h=>drawnX_ok hN hm self hs rd id os s o h
  have hh:=iterO_ok (drawn:=drawnX) hN hd hk.selfOk hk.loopOk n
  refine ⟨o',h2,hh.1 _ _ h1,?_⟩
  unfold LoopFact
  split
  · exact fun hb=>hh.2 _ _ _ _ _ h1 hb
  · trivial
theorem Known.fn {a:Ans}(hk:Known P a) {A R:Type}{n:Nat}{zs:List Nat}(f:FuncId) (args:A→List Value) (rt:A→RT R) (enc:R→Value)
    (hev:∀x,evC P a.c n (.call f ⟨args x⟩ ⟨[],0,[]⟩) (frzK zs)=(rt x).out fun r=>.ret (enc r) ⟨[],0,[]⟩) (hpa:∀x,(args x).all pureA=true) (dec:Task→Option (A×Hp)) (alt:A→Hp→AT)
    (hd:∀t x h,dec t=some (x,h)→t=.call f ⟨args x⟩ h) (ha:∀x h o,(alt x h).out=some o→∃r,(rt x).val=some r∧o=.ret (enc r) h) :
    Known P (fnAns dec alt):=by
  intro t at' o ht ho
  cases hdt:dec t with
  | none=>simp only [loopAns,fnAns,hdt]at ht;cases ht
  | some xh =>
    obtain ⟨x,h⟩:=xh;simp only [loopAns,fnAns,hdt,Option.some.injEq]at ht;subst ht;obtain ⟨r,h1,rfl⟩:=ha x h o ho;obtain rfl:=hd t x h hdt;have h2:=hev x;rw [RT.out_val,h1,Option.map_some]at h2;obtain ⟨o,h3,hf⟩:=hk.factK hN hm h2
    cases o with
    | ret v h'=>exact hf.lift h3 (hpa x) h
    | _=>cases h3
end
end
end
end Go.Gi
namespace Go.Gi
open Go.RowKit
noncomputable section
structure Agree (σ:Nat→Nat→Prop) (φ ψ:Phi):Prop where
  fn:∀(i j:Nat) (x:Nat×Nat×Nat),σ i j→φ.f i=some x→ψ.f j=some x
  zz:∀B o,φ.z B=some o→ψ.z B=some o
instance {σ:Nat→Nat→Prop} {φ ψ:Phi}:CoeFun (Agree σ φ ψ) (fun _=>∀(i j:Nat) (x:Nat×Nat×Nat),σ i j→φ.f i=some x→ψ.f j=some x):=⟨Agree.fn⟩
def TR (σ:Nat→Nat→Prop) (v v':Value):Prop:=∀φ ψ,Agree σ φ ψ→∀x,VR φ v x→VR ψ v' x
def ObTR (σ:Nat→Nat→Prop) (o o':Ob):Prop:=∀φ ψ,Agree σ φ ψ→∀w B bs tot,ObR φ w o B bs tot→ObR ψ w o' B bs tot
def inS (ρ:Nat→Nat)(H0:List Ob)(j i:Nat):Prop:=i<H0.length∧ρ i=j
def outS (ρ:Nat→Nat) (κ:Nat→Option Nat)(H0 Hb Hb1:List Ob)(i j:Nat):Prop :=
  (i<H0.length∧ρ i=j)∨(κ j=some i∧Hb.length≤j∧j<Hb1.length)
structure Carry (ρ:Nat→Nat) (κ:Nat→Option Nat) (H0 H1 Hb Hb1:List Ob):Prop where
  inn:∀(i:Nat) (ob:Ob),H0[i]?=some ob→ob.live=true→∃ob',Hb[ρ i]?=some ob'∧ob'.live=true∧(ob.rw=true→ob'.rw=true)∧ObTR (inS ρ H0) ob' ob
  inj:∀(i i':Nat),i<H0.length→i' < H0.length→ρ i=ρ i'→i=i'
  low:∀i,i<H0.length→ρ i<Hb.length
  len:Hb.length≤Hb1.length
  kin:∀j i,κ j=some i→Hb.length≤j→H0.length≤i
  kinj:∀j j' i,Hb.length≤j→Hb.length≤j'→κ j=some i→κ j'=some i→j=j'
  out:∀(j:Nat) (ob':Ob),Hb1[j]?=some ob'→ob'.live=true →
    (Hb[j]?=some ob'∧∀(i:Nat) (ob0:Ob),H0[i]?=some ob0→ob0.rw=true→ρ i≠j) ∨
    (∃(i:Nat) (ob:Ob),H1[i]?=some ob∧ob.live=true∧(ob'.rw=true→ob.rw=true)∧(ob.rw=true∨∃ob0:Ob,H0[i]?=some ob0∧ob0.live=true)∧ObTR (outS ρ κ H0 Hb Hb1) ob ob'∧outS ρ κ H0 Hb Hb1 i j)
def pullP (φ:Phi) (ρ:Nat→Nat)(n:Nat):Phi:=⟨fun i=>if i<n then φ (ρ i) else none,φ.z⟩
open Classical in
def backP (ρ:Nat→Nat)(n j:Nat):Option Nat:=if h:∃i,i<n∧ρ i=j then some (Classical.choose h) else none
def pushP (φ φ1:Phi) (ρ:Nat→Nat) (κ:Nat→Option Nat)(n N N1:Nat):Phi:=⟨fun j=>if j<N then (match φ j with | some x=>some x | none=>(backP ρ n j).bind φ1.f) else if j<N1 then (κ j).bind φ1.f else none,φ1.z⟩
section
variable {P:Program}{K:Nat→Prop} {w0 w w':World} {φ φ1:Phi}{H0 H1 Hb Hb1:List Ob} {ρ:Nat→Nat} {κ:Nat→Option Nat}
theorem lt_of_get {α:Type}{l:List α}{i:Nat}{a:α}(h:l[i]?=some a):i<l.length:=(List.getElem?_eq_some_iff.1 h).1
theorem pull_at {i:Nat}(h:i<H0.length):pullP φ ρ H0.length i=φ (ρ i):=if_pos h
theorem Inv.push (hI:Inv K w0 φ Hb w)(hc:Carry ρ κ H0 H1 Hb Hb1) (hF:Inv (fun k=>k<w.heap.size∧¬RwAt (pullP φ ρ H0.length) H0 k∧φ.z k=none) w φ1 H1 w') (hle:le (pullP φ ρ H0.length) φ1) :
    ∃φ2,le φ φ2∧Agree (outS ρ κ H0 Hb Hb1) φ1 φ2∧Inv K w0 φ2 Hb1 w':=by
  have hdom:∀{j:Nat} {x:Nat×Nat×Nat},φ j=some x→j<Hb.length:=fun {j} {x} hx=>by
    rcases Nat.lt_or_ge j Hb.length with h | h
    · exact h
    · rw [hI.top j h]at hx;cases hx
  have hleφ:le φ (pushP φ φ1 ρ κ H0.length Hb.length Hb1.length):=⟨fun j x hx=>by
    show (if j<Hb.length then (match φ j with | some x=>some x | none=>(backP ρ H0.length j).bind φ1.f) else if j<Hb1.length then (κ j).bind φ1.f else none)=some x
    rw [if_pos (hdom hx),hx],hle.zz⟩
  have hlt:∀{j:Nat} {ob':Ob},Hb[j]?=some ob'→ob'.live=true→pushP φ φ1 ρ κ H0.length Hb.length Hb1.length j=φ j:=by
    intro j ob' h1 h2;obtain ⟨B,base,tot,h3,_⟩:=hI.obs j ob' h1 h2;rw [h3];exact hleφ _ _ h3
  have htop1:∀{i:Nat} {x:Nat×Nat×Nat},φ1 i=some x→i<H1.length:=fun {i} {x} hx=>by
    rcases Nat.lt_or_ge i H1.length with h | h
    · exact h
    · rw [hF.top i h]at hx;cases hx
  have hold:∀{i:Nat} {ob0:Ob},H0[i]?=some ob0→ob0.live=true→∃x,φ (ρ i)=some x∧φ1 i=some x:=by
    intro i ob0 h1 h2;obtain ⟨ob',h3,h4,_,_⟩:=hc.inn i ob0 h1 h2;obtain ⟨B,base,tot,h5,_⟩:=hI.obs _ ob' h3 h4;exact ⟨_,h5,hle i _ ((pull_at (lt_of_get h1)).trans h5)⟩
  have hnew:∀{j:Nat},Hb.length≤j→j<Hb1.length→pushP φ φ1 ρ κ H0.length Hb.length Hb1.length j=(κ j).bind φ1.f:=fun {j} h1 h2=>by
    show (if j<Hb.length then (match φ j with | some x=>some x | none=>(backP ρ H0.length j).bind φ1.f) else if j<Hb1.length then (κ j).bind φ1.f else none)=_
    rw [if_neg (by omega),if_pos h2]
  have hkeep:∀{j:Nat} {ob':Ob} {x:Nat×Nat×Nat},Hb[j]?=some ob'→ob'.live=true→φ j=some x→x.1<w.heap.size→(∀(i:Nat) (ob0:Ob),H0[i]?=some ob0→ob0.rw=true→ρ i≠j)→x.1<w.heap.size∧¬RwAt (pullP φ ρ H0.length) H0 x.1:=by
    intro j ob' x h1 h2 h3 h4 h5
    refine ⟨h4,?_⟩
    rintro ⟨b0,ob0,y,h6,h7,h8,h9⟩
    rw [pull_at (lt_of_get h6)]at h8;obtain ⟨o1,h10,_,h11,_⟩:=hc.inn b0 ob0 h6 (Ob.live_of_rw h7);exact hI.sep (ρ b0) j o1 ob' y x (h5 b0 ob0 h6 h7) h10 h1 (h11 h7) h2 h8 h3 h9
  have hsz:∀{j:Nat} {ob':Ob} {x:Nat×Nat×Nat},Hb[j]?=some ob'→ob'.live=true→φ j=some x→x.1<w.heap.size:=by
    intro j ob' x h1 h2 h3;obtain ⟨B,base,tot,h4,h5⟩:=hI.obs j ob' h1 h2;rw [h3]at h4;simp only [Option.some.injEq]at h4;subst h4;exact h5.lt h2
  have hsame:∀{k:Nat},k<w.heap.size∧¬RwAt (pullP φ ρ H0.length) H0 k→w'.heap[k]?=w.heap[k]?:=by
    intro k hk
    cases hz:φ.z k with
    | none=>exact hF.keep k ⟨hk.1,hk.2,hz⟩
    | some o=>rw [hI.frz k o hz,hF.frz k o (hle.zz k o hz)]
  have hagree:Agree (outS ρ κ H0 Hb Hb1) φ1 (pushP φ φ1 ρ κ H0.length Hb.length Hb1.length):=by
    refine ⟨?_,fun _ _ h=>h⟩
    rintro i j x (⟨h1,rfl⟩ | ⟨h1,h2,hj⟩) hx
    · cases hφ:φ (ρ i) with
      | some y =>
        have h4:=hle i y ((pull_at h1).trans hφ);rw [hx]at h4;rw [h4];exact hleφ _ _ hφ
      | none =>
        show (if ρ i<Hb.length then (match φ (ρ i) with | some x=>some x | none=>(backP ρ H0.length (ρ i)).bind φ1.f) else if ρ i<Hb1.length then (κ (ρ i)).bind φ1.f else none)=some x
        rw [if_pos (hc.low i h1),hφ];have hex:∃i',i' < H0.length∧ρ i'=ρ i:=⟨i,h1,rfl⟩
        have hb:backP ρ H0.length (ρ i)=some i:=by
          unfold backP;rw [dif_pos hex];have:=Classical.choose_spec hex;rw [hc.inj _ _ this.1 h1 this.2]
        show (backP ρ H0.length (ρ i)).bind φ1.f=some x
        rw [hb];exact hx
    · rw [hnew h2 hj,h1]
      exact hx
  have hlen:=hc.len
  have hB:∀{i j:Nat} {ob:Ob} {x:Nat×Nat×Nat},outS ρ κ H0 Hb Hb1 i j→H1[i]?=some ob→ob.live=true→pushP φ φ1 ρ κ H0.length Hb.length Hb1.length j=some x→φ1 i=some x:=by
    intro i j ob x hs h1 h2 hx;obtain ⟨B,base,tot,h3,_⟩:=hF.obs i ob h1 h2;have:=hagree i j _ hs h3;rw [hx]at this;rw [h3,this]
  have hfun:∀{i j j':Nat},outS ρ κ H0 Hb Hb1 i j→outS ρ κ H0 Hb Hb1 i j'→j=j':=by
    rintro i j j' (⟨h1,rfl⟩ | ⟨h1,h2,h3⟩) (⟨h1',rfl⟩ | ⟨h1',h2',h3'⟩)
    · rfl
    · have:=hc.kin _ _ h1' h2'
      omega
    · have:=hc.kin _ _ h1 h2
      omega
    · exact hc.kinj _ _ _ h2 h2' h1 h1'
  have hKK:∀{k:Nat},K k→k<w.heap.size∧¬RwAt (pullP φ ρ H0.length) H0 k∧φ.z k=none:=by
    intro k hk
    refine ⟨Nat.lt_of_lt_of_le (hI.klt _ hk) hI.size,?_,hI.zk k hk⟩
    rintro ⟨b0,ob0,y,k1,k2,k3,k4⟩
    rw [pull_at (lt_of_get k1)]at k3;obtain ⟨o1,k5,_,k6,_⟩:=hc.inn b0 ob0 k1 (Ob.live_of_rw k2);exact hI.prot (ρ b0) o1 y k5 (k6 k2) k3 (k4 ▸ hk)
  refine ⟨pushP φ φ1 ρ κ H0.length Hb.length Hb1.length,hleφ,hagree,?_,?_,?_,?_,hI.klt,Nat.le_trans hI.size hF.size,hF.os.trans hI.os,hF.tape.trans hI.tape,hF.output.trans hI.output,?_,hF.frz,?_,?_⟩
  · intro j ob' h1 h2
    rcases hc.out j ob' h1 h2 with ⟨h3,h4⟩ | ⟨i,ob,h3,h4,h5,h6,h7,h8⟩
    · obtain ⟨B,base,tot,h5,h6⟩:=hI.obs j ob' h3 h2
      exact ⟨B,base,tot,hleφ _ _ h5,h6.keep hleφ (hsame (hkeep h3 h2 h5 (h6.lt h2) h4))⟩
    · obtain ⟨B,base,tot,h9,h10⟩:=hF.obs i ob h3 h4
      exact ⟨B,base,tot,hagree i j _ h8 h9,h7 _ _ hagree _ _ _ _ h10⟩
  · intro j j' ob ob' x y hne hj hj' hrw hl hx hy
    rcases hc.out j ob hj (Ob.live_of_rw hrw) with ⟨h3,h4⟩ | ⟨i,o,h3,h4,h5,h6,h7,h8⟩
    · have hx':φ j=some x:=by rw [← hlt h3 (Ob.live_of_rw hrw)];exact hx
      rcases hc.out j' ob' hj' hl with ⟨h3',h4'⟩ | ⟨i',o',h3',h4',h5',h6',h7',h8'⟩
      · have hy':φ j'=some y:=by rw [← hlt h3' hl];exact hy
        exact hI.sep j j' ob ob' x y hne h3 h3' hrw hl hx' hy'
      · have hy':=hB h8' h3' h4' hy
        rcases h6' with hrw' | ⟨ob0,k0,kl⟩
        · intro he
          exact hF.prot i' o' y h3' hrw' hy' (he ▸ (let q:=hkeep h3 (Ob.live_of_rw hrw) hx' (hsz h3 (Ob.live_of_rw hrw) hx') h4;⟨q.1,q.2,hI.zsep j ob x h3 hrw hx'⟩))
        · have k3:ρ i'=j':=by
            rcases h8' with ⟨k1,k3⟩ | ⟨k1,k2,_⟩
            · exact k3
            · have:=hc.kin _ _ k1 k2
              have:=lt_of_get k0
              omega
          obtain ⟨o1,k4,k5,_,_⟩:=hc.inn i' ob0 k0 kl;obtain ⟨y',k6,k7⟩:=hold k0 kl;rw [hy']at k7;simp only [Option.some.injEq]at k7;subst k7
          exact hI.sep j (ρ i') ob o1 x y (by rw [k3];exact hne) h3 k4 hrw k5 hx' k6
    · have hx':=hB h8 h3 h4 hx
      rcases hc.out j' ob' hj' hl with ⟨h3',h4'⟩ | ⟨i',o',h3',h4',h5',h6',h7',h8'⟩
      · have hy':φ j'=some y:=by rw [← hlt h3' hl];exact hy
        intro he;have q:=hkeep h3' hl hy' (hsz h3' hl hy') h4'
        cases hz:φ.z y.1 with
        | none=>exact hF.prot i o x h3 (h5 hrw) hx' (he.symm ▸ ⟨q.1,q.2,hz⟩)
        | some o' =>
          have q1:=hF.zsep i o x h3 (h5 hrw) hx';rw [he,hle.zz _ _ hz]at q1
          cases q1
      · have hy':=hB h8' h3' h4' hy
        exact hF.sep i i' o o' x y (fun he=>hne (hfun (he ▸ h8) h8')) h3 h3' (h5 hrw) h4' hx' hy'
  · intro j ob x hj hrw hx hk
    rcases hc.out j ob hj (Ob.live_of_rw hrw) with ⟨h3,h4⟩ | ⟨i,o,h3,h4,h5,h6,h7,h8⟩
    · have hx':φ j=some x:=by rw [← hlt h3 (Ob.live_of_rw hrw)];exact hx
      exact hI.prot j ob x h3 hrw hx' hk
    · have hx':=hB h8 h3 h4 hx
      exact hF.prot i o x h3 (h5 hrw) hx' (hKK hk)
  · intro k hk
    rw [hF.keep k (hKK hk)];exact hI.keep k hk
  · intro j hj
    show (if j<Hb.length then (match φ j with | some x=>some x | none=>(backP ρ H0.length j).bind φ1.f) else if j<Hb1.length then (κ j).bind φ1.f else none)=none
    rw [if_neg (by omega),if_neg (by omega)]
  · intro j ob x hj hrw hx
    rcases hc.out j ob hj (Ob.live_of_rw hrw) with ⟨h3,h4⟩ | ⟨i,o,h3,h4,h5,h6,h7,h8⟩
    · have hx':φ j=some x:=by rw [← hlt h3 (Ob.live_of_rw hrw)];exact hx
      have q:=hkeep h3 (Ob.live_of_rw hrw) hx' (hsz h3 (Ob.live_of_rw hrw) hx') h4;exact hF.zk x.1 ⟨q.1,q.2,hI.zsep j ob x h3 hrw hx'⟩
    · exact hF.zsep i o x h3 (h5 hrw) (hB h8 h3 h4 hx)
  · exact fun k hk=>hF.zk k (hKK hk)
end
end
end Go.Gi
namespace Go.Gi
open Go.RowKit
noncomputable section
section
variable {σ:Nat→Nat→Prop}
theorem cut_agree {φ ψ:Phi}{n:Nat}(ha:Agree σ φ ψ) (hid:∀i,i<n→σ i i):le (cut φ n) ψ:=by
  refine ⟨?_,fun B o h=>ha.zz B o h⟩
  intro b x hx
  rcases Nat.lt_or_ge b n with h | h
  · rw [cut_lt h]at hx;exact ha b b x (hid b h) hx
  · rw [cut_ge h]at hx;cases hx
theorem ObTR.sc {n:Nat}{o:Ob}(hid:∀i,i<n→σ i i) (h:obSc n o=true):ObTR σ o o:=fun φ ψ ha w B bs tot hx=>(obSc_cut h hx).keep (cut_agree ha hid) rfl
theorem TR.slice {b b' off l z:Nat}(h:σ b b'):TR σ (.slice (some ⟨b,off,none⟩) l z) (.slice (some ⟨b',off,none⟩) l z):=by
  intro φ ψ ha x hx
  cases hx with
  | sliceZ hp a'=>exact .sliceZ (a:=⟨b',off,none⟩) (ha _ _ _ h hp) a' _
  | slice hp hl hc=>exact .slice (ha _ _ _ h hp) hl hc
theorem ObTR.same {o:Ob}(h:∀n,obSc n o=true):ObTR σ o o:=ObTR.sc (n:=0) (fun i hi=>absurd hi (Nat.not_lt_zero _)) (h 0)
end
structure Grow (r:Nat→Nat) (κ:Nat→Option Nat) (Pre T X G G1:List Ob):Prop where
  sc:Pre.all (obSc Pre.length)=true
  pre:∀(i:Nat) (ob:Ob),T[i]?=some ob→G[r i]?=some ob∧∀n,obSc n ob=true
  inj:∀i i',i<T.length→i' < T.length→r i=r i'→i=i'
  len:G.length≤G1.length
  kin:∀j i,κ j=some i→G.length≤j→T.length≤i
  kinj:∀j j' i,G.length≤j→G.length≤j'→κ j=some i→κ j'=some i→j=j'
  out:∀(j:Nat) (ob:Ob),G1[j]?=some ob→ob.live=true →
    (G[j]?=some ob∧∀i,i<T.length→r i≠j) ∨
    (∃i,X[i]?=some ob∧ob.rw=true∧(∀n,obSc n ob=true)∧((i<T.length∧r i=j)∨(κ j=some i∧G.length≤j∧j<G1.length)))
section
variable {r:Nat→Nat} {κ:Nat→Option Nat}{Pre T X G G1:List Ob}
theorem get_app {A B:List Ob}{j:Nat}{ob:Ob}(h:(A++B)[j]?=some ob):(j<A.length∧A[j]?=some ob)∨(A.length≤j∧B[j-A.length]?=some ob):=by
  rcases Nat.lt_or_ge j A.length with h1 | h1
  · rw [List.getElem?_append_left h1]at h;exact .inl ⟨h1,h⟩
  · rw [List.getElem?_append_right h1]at h;exact .inr ⟨h1,h⟩
theorem Grow.same {p:Nat}{A:Ob}(hsc:Pre.all (obSc Pre.length)=true) (hp:G[p]?=some A) (hA:∀n,obSc n A=true) (hw:A.rw=true):Grow (fun _=>p) (fun _=>none) Pre [A] (A::X) G G:=by
  refine ⟨hsc,?_,?_,Nat.le_refl _,by simp,by simp,?_⟩
  · intro i ob hi
    rcases i with _ | i
    · simp only [List.getElem?_cons_zero,Option.some.injEq]at hi
      subst hi;exact ⟨hp,hA⟩
    · simp at hi
  · intro i i' h1 h2 _
    simp only [List.length_cons,List.length_nil]at h1 h2
    omega
  · intro j ob hj hl
    by_cases hjp:j=p
    · subst hjp
      rw [hp]at hj;simp only [Option.some.injEq]at hj;subst hj
      exact .inr ⟨0,rfl,hw,hA,.inl ⟨by simp,rfl⟩⟩
    · exact .inl ⟨hj,fun i _ he=>hjp he.symm⟩
theorem Grow.first {q:Nat}{B:Ob}(hsc:Pre.all (obSc Pre.length)=true) (hq:X[q]?=some B) (hB:∀n,obSc n B=true) (hw:B.rw=true):Grow (fun _=>0) (fun j=>if j=G.length then some q else none) Pre [] X G (G++[B]):=by
  refine ⟨hsc,by simp,by simp,by simp,by simp,?_,?_⟩
  · intro j j' i _ _ h1 h2
    split at h1
    · split at h2
      · omega
      · cases h2
    · cases h1
  · intro j ob hj hl
    rcases get_app hj with ⟨h1,h2⟩ | ⟨h1,h2⟩
    · exact .inl ⟨h2,by simp⟩
    · cases hh:j-G.length with
      | zero =>
        rw [hh]at h2
        simp only [List.getElem?_cons_zero,Option.some.injEq]at h2
        subst h2
        have:j=G.length:=by omega
        exact .inr ⟨q,hq,hw,hB,.inr ⟨by rw [if_pos this],by omega,by simp;omega⟩⟩
      | succ k=>rw [hh]at h2;simp at h2
end
def AnyOk (P:Program)(os:Array Oper) (s s':St):Prop :=
  s.h.base≤s.h.bl.length→Pres s.h s'.h∧∀(K:Nat→Prop) (w0:World) (φ:Phi) (w:World) (a:Act) (F:Fence) (n:Nat) (rd:Option Nat) (Q:Exit→Act→World→Prop),
    Inv K w0 φ s.h.bl w→VRs φ s.t.toArray a.tmps→DRs φ s.d a.defers→FenceOk φ rd F→(∀x a w',CodeR K w0 φ .normal s' x a w'→Q x a w')→wpAnyIn F n P .any os Q os.size (Array.replicate os.size false) a { w with drawn:=w.drawn+1 }
theorem drawn_any {P:Program}{self:Self}(hN:NoNG P) (hs:SelfOk P self) {rd:Option Nat}{id:Nat}{os:Array Oper}{s:St}{o:Out}(h:drawn P self rd id os s=some o):∃s',o=.ex .normal s'∧AnyOk P os s s':=by
  unfold drawn at h
  split at h
  case isFalse=>cases h
  rename_i hp
  split at h
  case h_2=>cases h
  rename_i recs T h1 hr
  split at h
  case isFalse=>cases h
  rename_i hc;simp only [Option.some.injEq]at h;subst h;have p:=plan_of hp hr hc
  refine ⟨_,rfl,fun hb=>⟨(p.tr.pres hs hb).1,?_⟩⟩
  intro K w0 φ w a F n rd Q hI ht hd hF hQ
  have h0:∀j,(Array.replicate os.size false).getD j false=false:=fun j=>by
    simp only [Array.getD_eq_getD_getElem?,Array.getElem?_replicate]
    split<;>rfl
  refine p.run hN hs hb os.size _ (List.range os.size) φ a _ (by simp) ?_ ?_ (by simp) ?_ ?_ hd hF hQ
  · intro j k hj;simp only [h0]at hj;cases hj
  · intro i hi _;exact List.mem_range.2 hi
  · rw [HD_none _ fun r _ _=>h0 r.i];exact hI.drew
  · rw [TD_none _ fun r _=>h0 r.i];exact ht
theorem drawnF_any {P:Program}{self:Self}(hN:NoNG P) (hs:SelfOk P self) {rd:Option Nat}{id:Nat}{os:Array Oper}{s:St}{o:Out}(h:drawnF P self rd id os s=some o):∃s',o=.ex .normal s'∧AnyOk P os s s':=by
  unfold drawnF at h
  split at h
  case isFalse=>cases h
  rename_i hp
  split at h
  case h_2=>cases h
  rename_i recs T h1 hr
  split at h
  case isFalse=>cases h
  rename_i hc;simp only [Option.some.injEq]at h;subst h;simp only [Bool.and_eq_true]at hc;have p:=planF_of hp hr hc.1 hc.2.1
  have hdl:∀r∈recs,r.loud=true→isAlR r=true→∀t,r.o.dst=some t→t<s.t.length:=by
    intro r hr hl ha t ht;have:=hc.2.2;rw [List.all_eq_true]at this;have:=this r hr;rw [hl,ha,ht]at this
    simpa using this
  refine ⟨_,rfl,fun hb=>⟨(p.tr.pres hs hb).1,?_⟩⟩
  intro K w0 φ w a F n rd Q hI ht hd hF hQ
  have h0:∀j,(Array.replicate os.size false).getD j false=false:=fun j=>by
    simp only [Array.getD_eq_getD_getElem?,Array.getElem?_replicate]
    split<;>rfl
  have hnf:∀r,¬IsFl recs (fun j=>(Array.replicate os.size false).getD j false) (fun _=>false) r:=fun r hr=>by have:=hr.2.2.2.1;simp only [h0]at this;cases this
  have hI':=hI.drew
  refine p.run hN hs hb hdl os.size _ (List.range os.size) (fun _=>false) (fun _=>0) φ s.t a _ (by simp) ?_ (by simp) ?_ hd hF hQ
  · intro i hi _;exact List.mem_range.2 hi
  · refine ⟨fun i hi=>by (cases hi),fun r _ hD=>by (simp only [h0]at hD;cases hD),pw_all fun _ _ _ _ _ _ h=>by (cases h),fun j k hj=>by (simp only [h0]at hj;cases hj),rfl,fun t _=>?_,ht,?_,?_,fun r hr=>(hnf r hr).elim,fun r _ hr=>(hnf r hr).elim,fun r hr=>(hnf r hr).elim⟩
    · rw [TD_none _ fun r _=>rfl]
    · rw [HD_none _ fun r _ _=>rfl]
      refine hI'.rebase.weaken ?_
      rintro k (hk | ⟨r,hr,_⟩)
      · exact hk
      · exact (hnf r hr).elim
    · exact ⟨hI'.keep,hI'.klt,hI'.size,hI'.os,hI'.tape,hI'.output⟩
theorem drawnX_any {P:Program}{self:Self}(hN:NoNG P) (hs:SelfOk P self) {rd:Option Nat}{id:Nat}{os:Array Oper}{s:St}{o:Out}(h:drawnX P self rd id os s=some o):∃s',o=.ex .normal s'∧AnyOk P os s s':=by
  unfold drawnX at h
  split at h
  · exact drawnF_any hN hs h
  · exact drawn_any hN hs h
theorem blt_lt {a b:Nat}(h:Nat.blt a b=true):a<b:=by rwa [Nat.blt_eq]at h
def depsAt (os:Array Oper)(i:Nat):List Nat:=((os[i]?).map depsOf).getD []
def depsAsc (os:Array Oper):Bool:=(List.range os.size).all fun i=>(depsAt os i).all fun d=>Nat.blt d i
def guardsIn (os:Array Oper)(m:Nat):Bool:=(List.range m).all fun i=>match (os[i]?).bind (·.guard) with
  | none=>true
  | some (j,_)=>Nat.blt j m
def ancs (os:Array Oper):Nat→List Nat→List Nat
  | 0,s=>s
  | f+1,s=>ancs os f (s++((s.flatMap (depsAt os)).filter fun d=>!s.contains d).eraseDups)
def waits (os:Array Oper)(m:Nat):Bool:=depsAsc os&&(guardsIn os m&&(List.range m).all fun j=>(ancs os m (depsAt os m)).contains j)
theorem dep_mem {os:Array Oper}{i:Nat}{o:Oper}(ho:os[i]?=some o) {d:Nat}:d∈depsAt os i↔∃e∈o.after,Region.binds .any e=true∧e.on=d:=by
  unfold depsAt depsOf;rw [ho];simp only [Option.map_some,Option.getD_some,List.mem_map,List.mem_filter,Array.mem_toList_iff,and_assoc]
def ShutL (os:Array Oper)(D:Nat→Prop):Prop:=∀i,D i→∀d∈depsAt os i,D d
theorem ancs_ok {os:Array Oper}{D:Nat→Prop}(hs:ShutL os D):∀(f:Nat) (s:List Nat),(∀i∈s,D i)→∀i∈ancs os f s,D i
  | 0,s,h=>h
  | f+1,s,h=>by
    refine ancs_ok hs f _ fun i hi=>?_
    rcases List.mem_append.1 hi with hi | hi
    · exact h i hi
    · rw [List.mem_eraseDups]at hi
      obtain ⟨hi,_⟩:=List.mem_filter.1 hi;obtain ⟨j,hj,hij⟩:=List.mem_flatMap.1 hi;exact hs j (h j hj) i hij
section
variable {P:Program}{F:Fence}{n:Nat}{Q:Exit→Act→World→Prop}
theorem upon_q {o:Oper}{a:Act}{K:Act→World→Prop} {Q':Exit→Act→World→Prop}(hq:∀c a w,Q' (.panic c) a w→Q (.panic c) a w) (hl:LetsOut Q'→LetsOut Q) {r:Result Next}(h:o.uponIn F n P a K Q' r):o.uponIn F n P a K Q r:=by
  cases r with
  | ok x w' =>
    cases x<;>simp only [Oper.uponIn]at h ⊢ <;>
      first
        | exact h
        | exact ⟨h.1,CallsIn.mono h.2 (fun e w'' he=>by cases e<;>first | exact he | exact hq _ _ _ he | exact hl he)⟩
        | exact ⟨h.1,RowsIn.mono h.2 (fun _ _ he=>he)⟩
        | exact ⟨h.1,RoundIn.mono h.2 (fun e w'' he=>by cases e<;>first | exact he | exact hq _ _ _ he | exact hl he)⟩
  | halt x w'=>cases x<;>simp only [Oper.uponIn]at h ⊢<;>first | exact h | exact hq _ _ _ h
theorem any_full {os:Array Oper}{a:Act}{w:World}:∀(fuel:Nat) (listed:Array Bool),(∀j,j<os.size→listed.getD j true=true)→Q .normal a w→wpAnyIn F n P .any os Q fuel listed a w:=by
  intro fuel listed hl hq
  have hr:Region.ready .any os listed=[]:=by
    rw [List.eq_nil_iff_forall_not_mem];intro i hi;rw [mem_ready]at hi;obtain ⟨h1,o,h2,_⟩:=hi
    rw [hl i (Array.getElem?_eq_some_iff.1 h2).1]at h1;cases h1
  cases fuel with
  | zero=>exact ⟨hr,hq⟩
  | succ fuel=>exact ⟨fun _=>hq,fun i hi=>by rw [hr]at hi;cases hi⟩
theorem getD_tf {l:Array Bool}{j:Nat}(h:j<l.size):l.getD j true=l.getD j false:=by
  simp only [Array.getD_eq_getD_getElem?,Array.getElem?_eq_getElem h,Option.getD_some]
def behind (F:Fence)(n:Nat)(P:Program)(os:Array Oper)(m:Nat)(Q:Exit→Act→World→Prop):Exit→Act→World→Prop
  | .normal,a,w=>wpOpsIn F n P os Q [m] a w
  | e,a,w=>Q e a w
theorem any_last {os:Array Oper}{m:Nat}(hsz:os.size=m+1) (hw:waits os m=true):∀(fuel:Nat) (listed:Array Bool) (a:Act) (w:World),listed.size=m+1→listed.getD m false=false →
    ShutL os (fun j=>listed.getD j false=true)→wpAnyIn F n P .any os.pop (behind F n P os m Q) fuel listed.pop a w→wpAnyIn F n P .any os Q (fuel+1) listed a w:=by
  simp only [waits,Bool.and_eq_true]at hw;obtain ⟨hasc,hgu,hanc⟩:=hw
  have hpop:∀j,j<m→os.pop[j]?=os[j]?:=fun j hj=>by
    rw [Array.getElem?_pop]
    rw [if_pos (by omega)]
  have hlp:∀(l:Array Bool),l.size=m+1→∀j d,j<m→l.pop.getD j d=l.getD j d:=fun l hl j d hj=>by
    simp only [Array.getD_eq_getD_getElem?,Array.getElem?_pop]
    rw [if_pos (by omega)]
  have hdep:∀i,i<m+1→∀d∈depsAt os i,d<i:=fun i hi d hd=>by
    simp only [depsAsc,List.all_eq_true,List.mem_range,hsz]at hasc;exact blt_lt (hasc i hi d hd)
  have hready:∀(listed:Array Bool),listed.size=m+1→∀i,i<m→(i∈Region.ready .any os.pop listed.pop↔i∈Region.ready .any os listed):=by
    intro listed hl i hi;rw [mem_ready,mem_ready,hpop i hi,hlp listed hl i true hi]
    constructor
    · rintro ⟨h1,o,h2,h3⟩
      refine ⟨h1,o,h2,fun e he hb=>?_⟩
      have:=h3 e he hb
      rwa [hlp listed hl e.on false (by have:=hdep i (by omega) e.on ((dep_mem h2).2 ⟨e,he,hb,rfl⟩);omega)]at this
    · rintro ⟨h1,o,h2,h3⟩
      refine ⟨h1,o,h2,fun e he hb=>?_⟩
      rw [hlp listed hl e.on false (by have:=hdep i (by omega) e.on ((dep_mem h2).2 ⟨e,he,hb,rfl⟩);omega)]
      exact h3 e he hb
  have hlast:∀(listed:Array Bool),listed.size=m+1→ShutL os (fun j=>listed.getD j false=true)→m∈Region.ready .any os listed→∀j,j<m→listed.getD j false=true:=by
    intro listed hl hs hm j hj;rw [mem_ready]at hm;obtain ⟨_,o,ho,h3⟩:=hm;simp only [List.all_eq_true,List.mem_range]at hanc;have:=hanc j hj;rw [List.contains_iff_mem]at this
    refine ancs_ok hs m _ (fun d hd=>?_) j this
    obtain ⟨e,he,hb,rfl⟩:=(dep_mem ho).1 hd;exact h3 e he hb
  have hnone:∀(listed:Array Bool),listed.size=m+1→Region.ready .any os.pop listed.pop=[]→∀j,j<m→listed.getD j false=true:=by
    intro listed hl hr j
    induction j using Nat.strongRecOn with
    | _ j ih =>
      intro hj
      cases hc:listed.getD j false with
      | true=>rfl
      | false =>
        exfalso
        have hlt:j<os.size:=by omega
        have ho:os[j]?=some os[j]:=Array.getElem?_eq_getElem hlt
        have:j∈Region.ready .any os.pop listed.pop:=by
          rw [hready listed hl j hj,mem_ready]
          refine ⟨by rw [getD_tf (by omega)];exact hc,_,ho,fun e he hb=>?_⟩
          have hd:=hdep j (by omega) e.on ((dep_mem ho).2 ⟨e,he,hb,rfl⟩)
          exact ih e.on hd (by omega)
        rw [hr]at this;cases this
  have hall:∀(listed:Array Bool),listed.size=m+1→(∀j,j<m→listed.getD j false=true)→∀j,j<os.size→(listed.setIfInBounds m true).getD j true=true:=by
    intro listed hl h j hj
    by_cases hjm:j=m
    · subst hjm;simp [Array.getD_eq_getD_getElem?,hl]
    · rw [getD_set_ne true (Ne.symm hjm),getD_tf (by omega)]
      exact h j (by omega)
  have hend:∀(fuel:Nat) (listed:Array Bool) (a:Act) (w:World),listed.size=m+1→listed.getD m false=false→ShutL os (fun j=>listed.getD j false=true)→(∀j,j<m→listed.getD j false=true)→wpOpsIn F n P os Q [m] a w→wpAnyIn F n P .any os Q (fuel+1) listed a w:=by
    intro fuel listed a w hl hlm hs h hq
    have hms:m<os.size:=by omega
    have ho:os[m]?=some os[m]:=Array.getElem?_eq_getElem hms
    have hmr:m∈Region.ready .any os listed:=by
      rw [mem_ready]
      refine ⟨by rw [getD_tf (by omega)];exact hlm,_,ho,fun e he hb=>?_⟩
      exact h e.on (hdep m (by omega) e.on ((dep_mem ho).2 ⟨e,he,hb,rfl⟩))
    refine ⟨fun hr=>(by rw [hr]at hmr;cases hmr),fun i hi=>?_⟩
    have him:i=m:=by
      rw [mem_ready]at hi;obtain ⟨h1,o,h2,_⟩:=hi
      have hi2:i<os.size:=(Array.getElem?_eq_some_iff.1 h2).1
      by_cases hlt:i<m
      · rw [getD_tf (by omega),h i hlt]at h1;cases h1
      · omega
    subst him;rw [wpOpsIn_cons]at hq
    refine wpOpIn_mono (fun a w hk=>?_) hq
    exact any_full _ _ (hall listed hl h) hk
  intro fuel
  induction fuel with
  | zero =>
    intro listed a w hl hlm hs hh;have hr:=hh.1;have hq:=hh.2;exact hend 0 listed a w hl hlm hs (hnone listed hl hr) hq
  | succ fuel ih =>
    intro listed a w hl hlm hs hh;obtain ⟨hq,hi'⟩:=hh
    cases hr:Region.ready .any os.pop listed.pop with
    | nil=>exact hend (fuel+1) listed a w hl hlm hs (hnone listed hl hr) (hq hr)
    | cons x xs =>
      have hxm:∀i,i∈Region.ready .any os.pop listed.pop→i<m:=fun i hi=>by
        rw [mem_ready]at hi;obtain ⟨_,o,h2,_⟩:=hi
        have:=(Array.getElem?_eq_some_iff.1 h2).1
        simp at this;omega
      have hx:x∈Region.ready .any os.pop listed.pop:=by rw [hr];simp
      have hxl:=(hready listed hl x (hxm x hx)).1 hx
      refine ⟨fun h=>(by rw [h]at hxl;cases hxl),fun i hi=>?_⟩
      by_cases him:i=m
      · subst him
        have:=hlast listed hl hs hi x (hxm x hx);rw [mem_ready]at hxl
        rw [getD_tf (by have:=hxm x hx;omega),this]at hxl
        cases hxl.1
      · have hilt:i<m:=by
          rw [mem_ready]at hi;obtain ⟨_,o,h2,_⟩:=hi
          have:=(Array.getElem?_eq_some_iff.1 h2).1
          omega
        have h1:=hi' i ((hready listed hl i hilt).2 hi)
        have hlo:(listed.setIfInBounds i true).pop=listed.pop.setIfInBounds i true:=by
          apply Array.ext_getElem?
          intro j
          simp only [Array.getElem?_pop,Array.getElem?_setIfInBounds,Array.size_setIfInBounds,Array.size_pop]
          by_cases hj:j<listed.size-1
          · simp only [if_pos hj]
            by_cases hij:i=j
            · subst hij;simp [hj];omega
            · simp [hij]
          · simp only [if_neg hj]
            by_cases hij:i=j
            · subst hij;omega
            · simp [hij]
        have hrec:∀(a:Act) (w:World),wpAnyIn F n P .any os.pop (behind F n P os m Q) fuel (listed.pop.setIfInBounds i true) a w→wpAnyIn F n P .any os Q (fuel+1) (listed.setIfInBounds i true) a w:=by
          intro a w hk
          refine ih _ a w (by simp [hl]) ?_ ?_ (by rw [hlo];exact hk)
          · rw [getD_set_ne false him];exact hlm
          · intro j hj d hd
            have hi2:=hi;rw [mem_ready]at hi2;obtain ⟨_,o,h2,h3⟩:=hi2
            by_cases hji:j=i
            · subst hji
              obtain ⟨e,he,hb,rfl⟩:=(dep_mem h2).1 hd;exact getD_set_true (h3 e he hb)
            · rw [getD_set_ne false (Ne.symm hji)]at hj
              exact getD_set_true (hs j hj d hd)
        have ho:=hpop i hilt;unfold wpOpIn at h1 ⊢;rw [ho]at h1
        split at h1
        · rename_i he;exact hrec a w h1
        · rename_i o he
          have hwant:Region.wanted o (yielded os.pop a.tmps)=Region.wanted o (yielded os a.tmps):=by
            unfold Region.wanted
            split
            · rfl
            · rename_i j want hg
              have:j<m:=by
                simp only [guardsIn,List.all_eq_true,List.mem_range]at hgu;have:=hgu i hilt;rw [he]at this;simp only [Option.bind_some,hg]at this;exact blt_lt this
              unfold yielded;rw [hpop j this]
          rw [hwant]at h1
          split at h1
          · rename_i hwt
            rw [if_pos hwt]
            refine Oper.wpIn_mono (fun a w hk=>hrec a w hk) ⟨h1.1,upon_q (fun _ _ _ h=>h) (fun h=>h) h1.2⟩
          · rename_i hwt
            rw [if_neg hwt];exact ⟨h1.1,hrec _ _ h1.2⟩
end
def drawnW (P:Program)(self:Self)(rd:Option Nat)(id:Nat)(os:Array Oper)(s:St):Option Out :=
  match waits os (os.size-1)&&Nat.blt 0 os.size with
  | true=>(match drawnX P self rd id os.pop s with
    | some (.ex .normal s')=>runOps P self rd os [os.size-1] s'
    | _=>none)
  | false=>drawnX P self rd id os s
theorem drawnW_ok {P:Program}(hN:NoNG P) (hm:P.follows .mixedOrders=true):DrawnOk P drawnW:=by
  intro self hs rd id os s o h;unfold drawnW at h
  split at h
  · rename_i hw
    rw [Bool.and_eq_true]at hw;obtain ⟨hw,hz⟩:=hw;have hz:0<os.size:=blt_lt hz
    obtain ⟨m,hm1⟩:∃m,os.size=m+1:=⟨os.size-1,by omega⟩
    rw [hm1,Nat.add_sub_cancel]at h hw
    split at h
    case h_2=>cases h
    rename_i s' hd1;obtain ⟨s2,he,hA⟩:=drawnX_any hN hs hd1
    cases he
    by_cases hb:s.h.base≤s.h.bl.length
    · obtain ⟨hp,hA⟩:=hA hb
      have hb':s'.h.base≤s'.h.bl.length:=by rw [hp.base];exact Nat.le_trans hb hp.len
      obtain ⟨e,s3,rfl,hp2,hh⟩:=runOps_sound hN hs _ s' o h hb'
      refine fun _=>⟨hp.trans hp2,?_⟩
      intro K w0 φ w a F n hI ht hd hF
      refine wpIn_region_any hm ?_
      rw [hm1]
      have hrep:∀j,(Array.replicate (m+1) false).getD j false=false:=fun j=>by
        simp only [Array.getD_eq_getD_getElem?,Array.getElem?_replicate]
        split<;>rfl
      refine any_last hm1 hw m _ a _ (by simp) (hrep m) (fun i hi=>by have hi:(Array.replicate (m+1) false).getD i false=true:=hi;rw [hrep]at hi;cases hi) ?_
      have:=hA K w0 φ w a F n rd (behind F n P os m (CodeR K w0 φ e s3)) hI ht hd hF (fun x a w' hc=>?_)
      · have e1:(Array.replicate (m+1) false).pop=Array.replicate os.pop.size false:=by
          apply Array.ext_getElem?
          intro j
          simp only [Array.getElem?_pop,Array.getElem?_replicate,Array.size_replicate,Array.size_pop,hm1]
          by_cases hj:j<m
          · simp [hj];omega
          · simp [hj]
        have e2:os.pop.size=m:=by simp [hm1]
        rw [e1];rw [e2]at this ⊢;exact this
      · obtain ⟨φ',hle,hx,hT,hD,hI'⟩:=hc
        cases hx
        exact hh K w0 φ' w' a F n _ hI' hT hD (hF.mono hle) (fun x a w' hq=>hq.mono hle)
    · obtain ⟨e,s3,rfl⟩:=step_ok.runOps_ex _ _ _ h
      exact fun h=>absurd h hb
  · exact drawnX_ok hN hm self hs rd id os s o h
end
end Go.Gi
