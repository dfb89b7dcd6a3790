/- Part 3 of the texts below the claim. Conditions: none. -/
import Derived.Test.YtkcahhbhfmdpmaaMg2
import Derived.OrdersIn
set_option linter.unusedVariables false
set_option linter.unusedSimpArgs false
namespace Go.Gi
open Go.RowKit
noncomputable section
inductive ExR (φ:Phi):Ex→Exit→Prop
 | normal:ExR φ .normal .normal
 | exit (id:Nat):ExR φ (.exit id) (.exit id)
 | goto (l:Nat):ExR φ (.goto l) (.goto l)
 | ret:ExR φ .ret .ret
 | panic {v v':Value} (h:VR φ v v'):ExR φ (.panic v) (.panic [{ v:=v',recovered:=false }])
inductive DRs (φ:Phi):List Deferred→List Deferred→Prop
 | nil:DRs φ [] []
 | cons {d d':Deferred} {l l':List Deferred} (h:DR φ d d') (r:DRs φ l l'):DRs φ (d::l) (d'::l')
theorem DRs.mono {φ ψ:Phi}(hle:le φ ψ) {l l':List Deferred}(h:DRs φ l l'):DRs ψ l l':=by
 induction h with
 | nil=>exact .nil
 | cons h _ ih=>exact .cons (h.mono hle) ih
inductive MoR (φ:Phi):Mo→FrameMode→Prop
 | returning:MoR φ .returning .returning
 | panicking {v v':Value} (done:Bool) (h:VR φ v v'):MoR φ (.panicking v done) (.panicking [{ v:=v',recovered:=done }])
theorem MoR.mono {φ ψ:Phi}(hle:le φ ψ) {m:Mo}{u:FrameMode}(h:MoR φ m u):MoR ψ m u:=by
 cases h with
 | returning=>exact .returning
 | panicking d h=>exact .panicking d (h.mono hle)
def CodeR (K:Nat→Prop)(w0:World) (φ:Phi)(e:Ex) (s':St)(x:Exit)(a:Act) (w':World):Prop :=
 ∃φ',le φ φ'∧ExR φ' e x∧VRs φ' s'.t.toArray a.tmps∧DRs φ' s'.d a.defers∧Inv K w0 φ' s'.h.bl w'
theorem CodeR.mono {K:Nat→Prop}{w0:World} {φ ψ:Phi}(hle:le φ ψ) {e:Ex} {s':St}{x:Exit}{a:Act} {w':World}(h:CodeR K w0 ψ e s' x a w'):CodeR K w0 φ e s' x a w':=by
 obtain ⟨φ',h1,h2⟩:=h;exact ⟨φ',le_trans hle h1,h2⟩
def RetR (K:Nat→Prop)(w0:World) (φ:Phi)(v:Value)(h:Hp):Ending→World→Prop
 | .returned v',w'=>∃φ',le φ φ'∧VR φ' v v'∧Inv K w0 φ' h.bl w'
 | _,_=>False
def PanR (K:Nat→Prop)(w0:World) (φ:Phi)(v:Value)(h:Hp):Ending→World→Prop
 | .panicked chain,w'=>∃φ' v',chain=[{ v:=v',recovered:=false }]∧le φ φ'∧VR φ' v v'∧Inv K w0 φ' h.bl w'
 | _,_=>False
def FenceOk (φ:Phi)(rd:Option Nat)(F:Fence):Prop :=
 match rd with
 | none=>F=Fence.wide
 | some l=>∃L t,φ l=some (L,0,t)∧F=Fence.wide.inRound L
theorem FenceOk.mono {φ ψ:Phi}(hle:le φ ψ) {rd:Option Nat}{F:Fence}(h:FenceOk φ rd F):FenceOk ψ rd F:=by
 cases rd with
 | none=>exact h
 | some l=>obtain ⟨L,t,h1,h2⟩:=h;exact ⟨L,t,hle _ _ h1,h2⟩
theorem FenceOk.fn {φ:Phi}{rd:Option Nat}{F:Fence}(h:FenceOk φ rd F) (f:FuncId):F.fn f:=by
 cases rd with
 | none=>subst h;trivial
 | some l=>obtain ⟨L,t,_,rfl⟩:=h;trivial
theorem FenceOk.depth {φ:Phi}{rd:Option Nat}{F:Fence}(h:FenceOk φ rd F) (n:Nat):F.depth.isSome=true→1≤n:=by
 cases rd with
 | none=>subst h;intro h;cases h
 | some l=>obtain ⟨L,t,_,rfl⟩:=h;intro h;cases h
theorem FenceOk.calls {φ:Phi}{rd:Option Nat}{F:Fence}(h:FenceOk φ rd F) {n:Nat}{P:Program}{f:FuncId}{args:Array Value}{w:World}{R:Ending→World→Prop}(hc:CallsIn Fence.wide n P f args w R):CallsIn F n P f args w R:=by
 cases rd with
 | none=>subst h;exact hc
 | some l=>obtain ⟨L,t,_,rfl⟩:=h;exact hc
theorem FenceOk.round {φ:Phi}{rd:Option Nat}{F:Fence}(h:FenceOk φ rd F) {n:Nat}{P:Program}{l:Nat}{f:FuncId}{tm:Array Value}{as bd:Code}{w:World}{R:Ending→World→Prop}(hc:RoundIn Fence.wide n P l f tm as bd w R):RoundIn F n P l f tm as bd w R:=by
 cases rd with
 | none=>subst h;exact hc
 | some l=>obtain ⟨L,t,_,rfl⟩:=h;exact hc
def TaskOk (P:Program):Task→Out→Prop
 | .code rd c s,.ex e s'=>s.h.base≤s.h.bl.length→Pres s.h s'.h∧∀(K:Nat→Prop) (w0:World) (φ:Phi) (w:World) (a:Act) (F:Fence) (n:Nat),
   Inv K w0 φ s.h.bl w→VRs φ s.t.toArray a.tmps→DRs φ s.d a.defers→FenceOk φ rd F→c.wpIn F n P (CodeR K w0 φ e s') a w
 | .call f args h,.ret v h'=>h.base≤h.bl.length→Pres h h'∧∀(K:Nat→Prop) (w0:World) (φ:Phi) (w:World) (args':Array Value) (n:Nat),
   Inv K w0 φ h.bl w→VRs φ args args'→CallsIn Fence.wide n P f args' w (RetR K w0 φ v h')
 | .call f args h,.pan v h'=>h.base≤h.bl.length→Pres h h'∧∀(K:Nat→Prop) (w0:World) (φ:Phi) (w:World) (args':Array Value) (n:Nat),
   Inv K w0 φ h.bl w→VRs φ args args'→CallsIn Fence.wide n P f args' w (PanR K w0 φ v h')
 | .dcall f args m h,.dret m' h'=>h.base≤h.bl.length→Pres h h'∧∀(K:Nat→Prop) (w0:World) (φ:Phi) (w:World) (args':Array Value) (u:FrameMode) (n:Nat),
   Inv K w0 φ h.bl w→VRs φ args args'→MoR φ m u→CallsDIn Fence.wide n P f args' u w fun e u' w'=>∃v,e=.returned v∧∃φ',le φ φ'∧MoR φ' m' u'∧Inv K w0 φ' h'.bl w'
 | .round l args h,.ret v h'=>h.base≤h.bl.length→Pres h h'∧∀(K:Nat→Prop) (w0:World) (φ:Phi) (w:World) (args':Array Value) (B t:Nat) (n:Nat),
   Inv K w0 φ h.bl w→VRs φ args args'→φ l=some (B,0,t)→∃fn tm as bd,(Instr.yield B args').run P w=.ok (.round B fn tm as bd) w∧RoundIn Fence.wide n P B fn tm as bd w (RetR K w0 φ v h')
 | _,_=>False
def SelfOk (P:Program)(self:Self):Prop:=∀(t:Task) (o:Out),self t=some o→TaskOk P t o
section
variable {P:Program}{self:Self}
theorem put_defers (a:Act)(dst:Option Tmp)(v:Value):(a.put dst v).defers=a.defers:=by cases dst<;>rfl
theorem vrs_put {φ:Phi}{t:List Value}{a:Act} {v v':Value}(h:VRs φ t.toArray a.tmps) (hv:VR φ v v') (dst:Option Tmp):VRs φ (put t dst v).toArray (a.put dst v').tmps:=by
 cases dst with
 | none=>exact h
 | some d =>
  show VRs φ (lset t d v).toArray (a.tmps.setIfInBounds d v')
  rw[lset_eq];exact h.set hv d
theorem wanted_eq {φ:Phi}{t:List Value} {t':Array Value}(h:VRs φ t.toArray t') (os:Array Oper) (o:Oper):Region.wanted o (yielded os t')=wantedT os t o:=by
 unfold Region.wanted wantedT
 cases o.guard with
 | none=>rfl
 | some g =>
  obtain ⟨j,want⟩:=g;simp only[yielded]
  cases (os[j]?).bind (·.dst) with
  | none=>rfl
  | some d =>
   simp only[Option.bind_some];rw[lget_eq,Array.getD_eq_getD_getElem?];have:=h d
   generalize t.toArray[d]?=x at this
   generalize t'[d]?=y at this
   cases this with
   | none=>rfl
   | some hv =>
    cases hv with
    | top _ hb=>rename_i b;cases b<;>first | rfl | cases hb
    | fz hf=>have hb:=hf.notB;rename_i b _ _ _;cases b<;>first | rfl | cases hb
    | _=>rfl
theorem evs_t {φ:Phi}{t:List Value}{a:Act}(h:VRs φ t.toArray a.tmps):Evs φ (evalT t) a.eval:=by
 intro x hx
 cases x with
 | tmp n =>
  show VR φ (lget t n) (a.tmps.getD n undef)
  rw[lget_eq];exact h.getD n
 | const v=>exact gr_refl hx
 | global g=>cases hx
 | func f=>exact .fn rfl rfl (fun i hi=>absurd hi (Nat.not_lt_zero _)) rfl (fun i hi=>absurd hi (Nat.not_lt_zero _))
theorem aop_defer {ρ:Operand→Value}{h:Hp}{o:Oper}{nx:Nx}{c:Call}(ho:o.op=.defer c) (ha:aop P ρ h o=some nx):∃d,nx=.defer d:=by
 unfold aop at ha
 split at ha
 ·rename_i v hv
  unfold aread at hv;rw[ho]at hv
  simp at hv
 ·unfold aloud at ha
  rw[ho]at ha;simp only at ha
  split at ha<;>first | cases ha;done | skip
  all_goals (repeat' (split at ha))<;>first | (cases ha;done) | (simp only[Option.some.injEq]at ha;subst ha;exact ⟨_,rfl⟩) | skip
  all_goals simp_all
theorem sem_plain {F:Fence} {ρ:Operand→Value}{o:Oper}(h:(∀c,o.op≠.defer c)∨F.round=none):o.semAt F.round ρ=execOp ρ o:=by
 rcases h with h | h
 ·exact Oper.semAt_eq _ _ _ h
 ·rw[h];rfl
theorem runOps_sound (hN:NoNG P)(hs:SelfOk P self) {rd:Option Nat}{os:Array Oper}:∀(l:List Nat) (s:St) (o:Out),runOps P self rd os l s=some o→s.h.base≤s.h.bl.length →
  ∃e s',o=.ex e s'∧Pres s.h s'.h∧∀(K:Nat→Prop) (w0:World) (φ:Phi) (w:World) (a:Act) (F:Fence) (n:Nat) (Q:Exit→Act→World→Prop),
   Inv K w0 φ s.h.bl w→VRs φ s.t.toArray a.tmps→DRs φ s.d a.defers→FenceOk φ rd F→(∀x a w',CodeR K w0 φ e s' x a w'→Q x a w')→wpOpsIn F n P os Q l a w
 | [],s,out,h,_=>by
  simp only[runOps,Option.some.injEq]at h;subst h
  refine ⟨.normal,s,rfl,Pres.refl _,?_⟩
  intro K w0 φ w a F n Q hI ht hd hF hQ;exact hQ _ _ _ ⟨φ,le_refl φ,.normal,ht,hd,hI⟩
 | i::r,s,out,h,hb=>by
  simp only[runOps,putK_eq,forceH_eq]at h
  cases ho:os[i]? with
  | none =>
   rw[ho]at h;obtain ⟨e,s',rfl,hp,hh⟩:=runOps_sound hN hs r s out h hb
   refine ⟨e,s',rfl,hp,?_⟩
   intro K w0 φ w a F n Q hI ht hd hF hQ;simp only[wpOpsIn,ho];exact hh K w0 φ w a F n Q hI ht hd hF hQ
  | some o =>
   rw[ho]at h;simp only at h
   by_cases hw:wantedT os s.t o=true
   ·rw[if_pos hw]at h
    split at h
    ·rename_i v h' ha
     have hnx:=fun (K:Nat→Prop) (w0:World) (φ:Phi) (w:World) (a:Act) (hI:Inv K w0 φ s.h.bl w) (ht:VRs φ s.t.toArray a.tmps)=>aop_sound hN hb hI (evs_t ht) ha
     have hnd:∀c,o.op≠.defer c:=fun c hc=>by obtain ⟨d,hd⟩:=aop_defer hc ha;cases hd
     have hbase:h'.base≤h'.bl.length:=by
      obtain ⟨p1,p2,_⟩:Pres s.h h':=aop_pres hb ha;rw[p1];omega
     obtain ⟨e,s',rfl,hp,hh⟩:=runOps_sound hN hs r _ out h hbase
     refine ⟨e,s',rfl,(aop_pres hb ha).trans hp,?_⟩
     intro K w0 φ w a F n Q hI ht hd hF hQ;obtain ⟨_,φ',v',w',hr,hle,hv,hI'⟩:=hnx K w0 φ w a hI ht;simp only[wpOpsIn,ho]
     rw[if_pos (by rw[wanted_eq ht];exact hw)]
     refine ⟨fun f _=>hF.fn f,?_⟩
     rw[sem_plain (.inl hnd)]
     have hrest:wpOpsIn F n P os Q r (a.put o.dst v') w':=hh K w0 φ' w' _ F n Q hI' (by exact vrs_put (ht.mono hle) hv _) (by rw[put_defers];exact hd.mono hle) (hF.mono hle) (fun x a w'' hc=>hQ x a w'' (hc.mono hle))
     rcases hr with hr | ⟨hr,rfl⟩
     ·rw[hr];exact hrest
     ·rw[hr];exact hrest
    ·rename_i f args ha
     have hnd:∀c,o.op≠.defer c:=fun c hc=>by obtain ⟨d,hd⟩:=aop_defer hc ha;cases hd
     split at h
     ·rename_i v h' hcall
      obtain ⟨hp1,hc⟩:=hs _ _ hcall hb
      have hbase:h'.base≤h'.bl.length:=by rw[hp1.base];exact Nat.le_trans hb hp1.len
      obtain ⟨e,s',rfl,hp,hh⟩:=runOps_sound hN hs r _ out h hbase
      refine ⟨e,s',rfl,hp1.trans hp,?_⟩
      intro K w0 φ w a F n Q hI ht hd hF hQ;obtain ⟨_,args',hr,hargs⟩:=aop_sound hN hb hI (evs_t ht) ha;simp only[wpOpsIn,ho]
      rw[if_pos (by rw[wanted_eq ht];exact hw)]
      refine ⟨fun f _=>hF.fn f,?_⟩
      rw[sem_plain (.inl hnd),hr]
      refine ⟨hF.depth n,(hF.calls (hc K w0 φ w args' (n-1) hI hargs)).mono ?_⟩
      intro en w' hen
      cases en with
      | returned v' =>
       obtain ⟨φ',hle,hv,hI'⟩:=hen
       exact hh K w0 φ' w' _ F n Q hI' (by exact vrs_put (ht.mono hle) hv _) (by rw[put_defers];exact hd.mono hle) (hF.mono hle) (fun x a w'' hc=>hQ x a w'' (hc.mono hle))
      | panicked ch=>exact hen.elim
      | outgrown=>exact hen.elim
     ·rename_i v h' hcall
      simp only[Option.some.injEq]at h;subst h;obtain ⟨hp1,hc⟩:=hs _ _ hcall hb
      refine ⟨.panic v,_,rfl,hp1,?_⟩
      intro K w0 φ w a F n Q hI ht hd hF hQ;obtain ⟨_,args',hr,hargs⟩:=aop_sound hN hb hI (evs_t ht) ha;simp only[wpOpsIn,ho]
      rw[if_pos (by rw[wanted_eq ht];exact hw)]
      refine ⟨fun f _=>hF.fn f,?_⟩
      rw[sem_plain (.inl hnd),hr]
      refine ⟨hF.depth n,(hF.calls (hc K w0 φ w args' (n-1) hI hargs)).mono ?_⟩
      intro en w' hen
      cases en with
      | returned v'=>exact hen.elim
      | panicked ch =>
       obtain ⟨φ',v',rfl,hle,hv,hI'⟩:=hen;exact hQ _ _ _ ⟨φ',hle,.panic hv,ht.mono hle,hd.mono hle,hI'⟩
      | outgrown=>exact hen.elim
     ·cases h
    ·rename_i l args ha
     have hnd:∀c,o.op≠.defer c:=fun c hc=>by obtain ⟨d,hd⟩:=aop_defer hc ha;cases hd
     split at h
     ·rename_i v h' hcall
      obtain ⟨hp1,hc⟩:=hs _ _ hcall hb
      have hbase:h'.base≤h'.bl.length:=by rw[hp1.base];exact Nat.le_trans hb hp1.len
      obtain ⟨e,s',rfl,hp,hh⟩:=runOps_sound hN hs r _ out h hbase
      refine ⟨e,s',rfl,hp1.trans hp,?_⟩
      intro K w0 φ w a F n Q hI ht hd hF hQ;obtain ⟨B,tb,args',hφ,hr,hargs⟩:=aop_sound hN hb hI (evs_t ht) ha;obtain ⟨fn,tm,as,bd,hy,hround⟩:=hc K w0 φ w args' B tb (n-1) hI hargs hφ;simp only[wpOpsIn,ho]
      rw[if_pos (by rw[wanted_eq ht];exact hw)]
      refine ⟨fun f _=>hF.fn f,?_⟩
      rw[sem_plain (.inl hnd),hr,hy]
      refine ⟨hF.depth n,(hF.round hround).mono ?_⟩
      intro en w' hen
      cases en with
      | returned v' =>
       obtain ⟨φ',hle,hv,hI'⟩:=hen
       exact hh K w0 φ' w' _ F n Q hI' (by exact vrs_put (ht.mono hle) hv _) (by rw[put_defers];exact hd.mono hle) (hF.mono hle) (fun x a w'' hc=>hQ x a w'' (hc.mono hle))
      | panicked ch=>exact hen.elim
      | outgrown=>exact hen.elim
     ·cases h
    ·rename_i d ha
     split at h
     ·rename_i hrd
      obtain rfl:rd=none:=by cases rd<;>first | rfl | cases hrd
      obtain ⟨e,s',rfl,hp,hh⟩:=runOps_sound hN hs r _ out h hb
      refine ⟨e,s',rfl,hp,?_⟩
      intro K w0 φ w a F n Q hI ht hd hF hQ;obtain ⟨d',hr,hdr⟩:=aop_sound hN hb hI (evs_t ht) ha;have hF':F=Fence.wide:=hF;simp only[wpOpsIn,ho]
      rw[if_pos (by rw[wanted_eq ht];exact hw)]
      refine ⟨fun f _=>hF.fn f,?_⟩
      rw[sem_plain (.inr (by rw[hF'];rfl)),hr]
      exact hh K w0 φ w _ F n Q hI (by exact vrs_put (a:={ a with defers:=d'::a.defers }) ht (VR.undef φ) _) (by rw[put_defers];exact .cons hdr hd) hF hQ
     ·cases h
    ·rename_i v ha
     have hnd:∀c,o.op≠.defer c:=fun c hc=>by obtain ⟨d,hd⟩:=aop_defer hc ha;cases hd
     simp only[Option.some.injEq]at h;subst h
     refine ⟨.panic v,s,rfl,Pres.refl _,?_⟩
     intro K w0 φ w a F n Q hI ht hd hF hQ;obtain ⟨v',hr,hv⟩:=aop_sound hN hb hI (evs_t ht) ha;simp only[wpOpsIn,ho]
     rw[if_pos (by rw[wanted_eq ht];exact hw)]
     refine ⟨fun f _=>hF.fn f,?_⟩
     rw[sem_plain (.inl hnd),hr];exact hQ _ _ _ ⟨φ,le_refl φ,.panic hv,ht,hd,hI⟩
    ·cases h
   ·rw[if_neg hw]at h
    obtain ⟨e,s',rfl,hp,hh⟩:=runOps_sound hN hs r _ out h hb
    refine ⟨e,s',rfl,hp,?_⟩
    intro K w0 φ w a F n Q hI ht hd hF hQ;simp only[wpOpsIn,ho]
    rw[if_neg (by rw[wanted_eq ht];exact hw)]
    exact ⟨fun f _=>hF.fn f,hh K w0 φ w _ F n Q hI (by exact vrs_put ht (VR.undef φ) _) (by rw[put_defers];exact hd) hF hQ⟩
where
 aop_pres {ρ:Operand→Value} {h h':Hp} {o:Oper} {v:Value} (hb:h.base≤h.bl.length) (ha:aop P ρ h o=some (.val v h')):Pres h h':=by
  unfold aop at ha
  split at ha
  ·simp only[Option.some.injEq,Nx.val.injEq]at ha
   rw[← ha.2];exact Pres.refl h
  ·unfold aloud at ha
   split at ha
   ·rw[Option.map_eq_some_iff]at ha
    obtain ⟨⟨u,k⟩,hl,hh⟩:=ha;simp only[Nx.val.injEq]at hh;rw[← hh.2];exact lAlloc_pres hb hl
   ·split at ha
    ·simp only[Option.some.injEq,Nx.val.injEq]at ha;rw[← ha.2];exact Pres.push h _ hb
    ·cases ha
   ·split at ha
    ·rw[Option.map_eq_some_iff]at ha
     obtain ⟨⟨u,k⟩,hl,hh⟩:=ha;simp only[Nx.val.injEq]at hh;rw[← hh.2];exact lBuildSlice_pres hb hl
    ·cases ha
   ·split at ha
    ·rw[Option.map_eq_some_iff]at ha
     obtain ⟨k,hl,hh⟩:=ha;simp only[Nx.val.injEq]at hh;rw[← hh.2];exact lStore_pres hl
    ·cases ha
   ·split at ha
    ·rw[Option.map_eq_some_iff]at ha
     obtain ⟨⟨u,k⟩,hl,hh⟩:=ha;simp only[Nx.val.injEq]at hh;rw[← hh.2];exact lBytes_pres hb hl
    ·cases ha
   ·split at ha
    ·simp only[Option.some.injEq,Nx.val.injEq]at ha;rw[← ha.2];exact Pres.push h _ hb
    ·cases ha
   ·split at ha
    ·rw[Option.map_eq_some_iff]at ha
     obtain ⟨k,hl,hh⟩:=ha;simp only[Nx.val.injEq]at hh;rw[← hh.2];exact lMapUpdate_pres hl
    ·cases ha
   ·split at ha
    ·rw[Option.map_eq_some_iff]at ha
     obtain ⟨k,hl,hh⟩:=ha;simp only[Nx.val.injEq]at hh;rw[← hh.2];exact lMapUpdate_pres hl
    ·cases ha
   ·split at ha
    ·split at ha
     ·rw[Option.map_eq_some_iff]at ha
      obtain ⟨⟨u,k⟩,hl,hh⟩:=ha;simp only[Nx.val.injEq]at hh;rw[← hh.2];exact lAppend_pres hb hl
     ·cases ha
    ·cases ha
   ·cases ha
   ·split at ha
    ·split at ha
     ·rw[Option.map_eq_some_iff]at ha
      obtain ⟨⟨u,k⟩,hl,hh⟩:=ha;simp only[Nx.val.injEq]at hh;rw[← hh.2];exact lCopy_pres hl
     ·cases ha
    ·cases ha
   ·split at ha
    ·split at ha
     ·rw[Option.map_eq_some_iff]at ha
      obtain ⟨k,hl,hh⟩:=ha;simp only[Nx.val.injEq]at hh;rw[← hh.2];exact lClear_pres hl
     ·cases ha
    ·cases ha
   ·repeat' (split at ha)
    all_goals cases ha
   ·repeat' (split at ha)
    all_goals cases ha
   ·repeat' (split at ha)
    all_goals cases ha
   ·split at ha
    ·rw[Option.map_eq_some_iff]at ha
     obtain ⟨⟨u,k⟩,hl,hh⟩:=ha;simp only[Nx.val.injEq]at hh;rw[← hh.2];exact lMakeSlice_pres hb hl
    ·cases ha
   ·cases ha
end
section
variable {P:Program}{self:Self}
theorem dr_args {φ:Phi} {d d':Deferred}{g:FuncId}{cap:Array Value}(h:DR φ d d') (ht:d.target=.fn (.func g) cap):∃cap',d'.target=.fn (.func g) cap'∧VRs φ (d.args++cap) (d'.args++cap'):=by
 rcases h with ⟨g',c1,c2,h1,h2,h3,h4⟩ | ⟨r,B,t,h1,_,_⟩
 ·rw[h1]at ht;cases ht
  exact ⟨c2,h2,h4.append h3⟩
 ·rw[h1]at ht;cases ht
theorem dr_mark {φ:Phi} {d d':Deferred}{r:Nat}(h:DR φ d d') (ht:d.target=.collected r):∃B t,d'.target=.collected B∧φ r=some (B,0,t):=by
 rcases h with ⟨g',c1,c2,h1,_,_,_⟩ | ⟨r',B,t,h1,h2,h3⟩
 ·rw[h1]at ht;cases ht
 ·rw[h1]at ht;cases ht
  exact ⟨B,t,h2,h3⟩
theorem settle_ok {φ:Phi}{m:Mo}{u:FrameMode}(h:MoR φ m u):MoR φ (settleM m) (settle u):=by
 cases h with
 | returning=>exact .returning
 | panicking done h =>
  cases done with
  | false=>exact .panicking false h
  | true=>exact .returning
theorem mo_run {φ:Phi}{m:Mo}{u:FrameMode}(h:MoR φ m u):u≠.run:=by cases h<;>intro h<;>cases h
def OutR (K:Nat→Prop)(w0:World) (φ:Phi):Out→Ending→World→Prop
 | .ret v h=>RetR K w0 φ v h
 | .pan v h=>PanR K w0 φ v h
 | _=>fun _ _=>False
def outH (h:Hp):Out→Prop
 | .ret _ h'=>Pres h h'
 | .pan _ h'=>Pres h h'
 | _=>False
theorem exit_pres {h hf:Hp}(hb:h.base≤h.bl.length) (hp:Pres (enterH h) hf) (v:Value):Pres h (exitH h hf v):=by
 have hsame:∀b,b<h.bl.length→b ∉ hf.wr→hf.bl[b]?=h.bl[b]?:=fun b hlt hn=>(hp.same b hlt hn).2
 have hlen:h.bl.length≤hf.bl.length:=hp.len
 have hfil:∀b,b<h.base→b ∉ (hf.wr.filter (fun b=>decide (b<h.base))++h.wr)→b ∉ hf.wr∧b ∉ h.wr:=by
  intro b hlt hn;simp only[List.mem_append,List.mem_filter,decide_eq_true_eq,not_or,not_and]at hn
  exact ⟨fun hm=>hn.1 hm hlt,hn.2⟩
 unfold exitH
 split
 ·exact Pres.refl h
 ·split
  ·refine ⟨rfl,by simp;omega,?_,?_⟩
   ·intro b hlt hn
    obtain ⟨n1,n2⟩:=hfil b hlt hn
    refine ⟨n2,?_⟩
    simp only
    rw[List.getElem?_take,if_pos (by omega)]
    exact hsame b (by omega) n1
   ·intro b ob hx hl hr
    simp only at hx
    rw[List.getElem?_take]at hx
    split at hx
    ·exact hp.ro b ob hx hl hr
    ·cases hx
  ·refine ⟨rfl,hlen,?_,hp.ro⟩
   intro b hlt hn;obtain ⟨n1,n2⟩:=hfil b hlt hn
   exact ⟨n2,hsame b (by omega) n1⟩
theorem leave_sound (hN:NoNG P)(hs:SelfOk P self) {fn:Func}{t:List Value}{h:Hp}(hb:h.base≤h.bl.length):∀(ds:List Deferred) (m:Mo) (hf:Hp) (o:Out),leave P self fn t h ds m hf=some o→Pres (enterH h) hf →
  ((∃v h',o=.ret v h')∨(∃v h',o=.pan v h'))∧outH h o∧∀(K:Nat→Prop) (w0:World) (φ0 φ:Phi) (w0' w:World) (t':Array Value) (ds':List Deferred) (u:FrameMode) (n:Nat),
   Inv K w0 φ0 h.bl w0'→le φ0 φ→Inv K w0 φ hf.bl w→VRs φ t.toArray t'→DRs φ ds ds'→MoR φ m u→LeavesInM Fence.wide n P fn t' (OutR K w0 φ0 o) ds' u w
 | [],.returning,hf,o,hl,hp=>by
  simp only[leave,Option.map_eq_some_iff]at hl;obtain ⟨v,hv,rfl⟩:=hl
  have hpr:∀(K:Nat→Prop) (w0:World) (φ0 φ:Phi) (w0' w:World) (v':Value),Inv K w0 φ0 h.bl w0'→Inv K w0 φ hf.bl w→le φ0 φ→VR φ v v'→_:=fun K w0 φ0 φ w0' w v' h1 h2 h3 h4=>exit_sound hb h1 h2 h3 hp h4
  refine ⟨.inl ⟨_,_,rfl⟩,exit_pres hb hp v,?_⟩
  intro K w0 φ0 φ w0' w t' ds' u n hI0 hle hI ht hd hm
  cases hd
  cases hm
  obtain ⟨v',hr,hvv⟩:=resB_sound hI ht hv;obtain ⟨_,φ'',h1,h2,h3⟩:=hpr K w0 φ0 φ w0' w v' hI0 hI hle hvv;exact ⟨v',hr,φ'',h1,h2,h3⟩
 | [],.panicking v false,hf,o,hl,hp=>by
  simp only[leave,Option.some.injEq]at hl;subst hl
  refine ⟨.inr ⟨_,_,rfl⟩,exit_pres hb hp v,?_⟩
  intro K w0 φ0 φ w0' w t' ds' u n hI0 hle hI ht hd hm
  cases hd
  cases hm with
  | panicking _ hv =>
   obtain ⟨_,φ'',h1,h2,h3⟩:=exit_sound hb hI0 hI hle hp hv;exact ⟨φ'',_,rfl,h1,h2,h3⟩
 | [],.panicking v true,hf,o,hl,hp=>by simp [leave]at hl
 | d::ds,m,hf,o,hl,hp=>by
  simp only[leave]at hl
  have hbf:hf.base≤hf.bl.length:=by rw[hp.base];exact hp.len
  split at hl
  ·rename_i r ht
   split at hl
   ·rename_i hr
    obtain ⟨h1,h2,h3⟩:=leave_sound hN hs hb ds m _ o hl (hp.trans (Pres.put hf r _))
    refine ⟨h1,h2,?_⟩
    intro K w0 φ0 φ w0' w t' ds' u n hI0 hle hI htt hd hm
    cases hd with
    | @cons _ d' _ ds'' hdr hds =>
     obtain ⟨B,tb,ht',hφ⟩:=dr_mark hdr ht;obtain ⟨B',base',tot',q1,_,q3⟩:=hI.obs r _ hr rfl;rw[hφ]at q1;cases q1
     have hlt:B<w.heap.size:=(Array.getElem?_eq_some_iff.1 q3).1
     refine ⟨mo_run hm,.inl ⟨B,_,ht',run_takeDeferred q3,?_⟩⟩
     exact h3 K w0 φ0 φ w0' _ t' ds'' u n hI0 hle (hI.write hr rfl hφ putObj_frame (by simp) rfl rfl rfl ⟨rfl,World.putObj_heap_same hlt⟩) htt hds hm
   ·cases hl
  ·rename_i g cap ht
   split at hl
   ·rename_i hbd
    split at hl
    ·rename_i m' h' hc
     obtain ⟨hp1,hcc⟩:=hs _ _ hc hbf;obtain ⟨h1,h2,h3⟩:=leave_sound hN hs hb ds _ h' o hl (hp.trans hp1)
     refine ⟨h1,h2,?_⟩
     intro K w0 φ0 φ w0' w t' ds' u n hI0 hle hI htt hd hm
     cases hd with
     | @cons _ d' _ ds'' hdr hds =>
      obtain ⟨cap',ht',hargs⟩:=dr_args hdr ht
      refine ⟨mo_run hm,.inr ⟨(fun h=>nomatch h),.func g,cap',g,d'.args++cap',ht',?_,fun _ _=>trivial,?_⟩⟩
      ·rw[ht'];simp only[invoke];exact run_callFunc hN hbd
      ·refine (hcc K w0 φ w _ u (n-1) hI hargs hm).mono ?_
       rintro e u' w' ⟨v,rfl,φ',hle',hm',hI'⟩
       exact h3 K w0 φ0 φ' w0' w' t' ds'' (settle u') n hI0 (le_trans hle hle') hI' (htt.mono hle') (hds.mono hle') (settle_ok hm')
    ·cases hl
   ·cases hl
  ·cases hl
theorem vrs_frame {φ:Phi}(fn:Func) {args args':Array Value}(h:VRs φ args args'):VRs φ (frame fn args).toArray (args'++Array.replicate (fn.ntmps-args'.size) undef):=by
 have e:(frame fn args).toArray=args++Array.replicate (fn.ntmps-args.size) undef:=by
  unfold frame
  apply Array.ext'
  simp
 rw[e,← h.size];exact h.append (VRs.replicate φ _ (VR.undef φ))
theorem call_sound (hN:NoNG P)(hs:SelfOk P self)(drawn:Program→Self→Option Nat→Nat→Array Oper→St→Option Out) {f:FuncId}{args:Array Value}{h:Hp}{o:Out}(hc:stepF drawn P self (.call f args h)=some o):TaskOk P (.call f args h) o:=by
 simp only[stepF,forceL1_eq]at hc
 split at hc
 case h_2=>cases hc
 rename_i fn hfn
 split at hc
 case h_2=>cases hc
 rename_i c hbody
 have main:∀(e:Ex) (s:St) (m:Mo),self (.code none c { t:=frame fn args,d:=[],h:=enterH h })=some (.ex e s) →
   (∀(φ:Phi) (x:Exit) (a:Act) (w:World) (R:Ending→World→Prop) (n:Nat),ExR φ e x→(∀u,MoR φ m u→LeavesInM Fence.wide n P fn a.tmps R a.defers u w)→bodyPostM Fence.wide n P fn R x a w) →
   leave P self fn s.t h s.d m s.h=some o→TaskOk P (.call f args h) o:=by
  intro e s m hcode hpost hl;have htask:=hs _ _ hcode
  have key:h.base≤h.bl.length→((∃v h',o=.ret v h')∨(∃v h',o=.pan v h'))∧outH h o∧∀(K:Nat→Prop) (w0:World) (φ:Phi) (w:World) (args':Array Value) (n:Nat),Inv K w0 φ h.bl w→VRs φ args args'→CallsIn Fence.wide n P f args' w (OutR K w0 φ o):=by
   intro hb;obtain ⟨hp,hcc⟩:=htask (Nat.le_refl _);obtain ⟨h1,h2,h3⟩:=leave_sound hN hs hb s.d m s.h o hl hp
   refine ⟨h1,h2,?_⟩
   intro K w0 φ w args' n hI hargs
   refine callsIn_of_wp_marks hfn hbody trivial (wpIn_mono (hcc K w0 φ w _ Fence.wide n hI (vrs_frame fn hargs) .nil rfl) ?_) rfl
   rintro x a w' ⟨φ',hle,hx,ht,hd,hI'⟩
   exact hpost φ' x a w' _ n hx (fun u hu=>h3 K w0 φ φ' w w' a.tmps a.defers u n hI hle hI' ht hd hu)
  cases o with
  | ret v h'=>exact fun hb=>let ⟨_,h2,h3⟩:=key hb;⟨h2,h3⟩
  | pan v h'=>exact fun hb=>let ⟨_,h2,h3⟩:=key hb;⟨h2,h3⟩
  | ex e1 s1 =>
   exfalso
   have:=(leave_shape s.d m s.h _ hl)
   rcases this with ⟨_,_,h⟩ | ⟨_,_,h⟩<;>cases h
  | dret m' h' =>
   exfalso
   have:=(leave_shape s.d m s.h _ hl)
   rcases this with ⟨_,_,h⟩ | ⟨_,_,h⟩<;>cases h
 split at hc
 ·rename_i s hcode
  exact main .normal s .returning hcode (fun φ x a w R n hx hl=>by cases hx;exact hl _ .returning) hc
 ·rename_i s hcode
  exact main .ret s .returning hcode (fun φ x a w R n hx hl=>by cases hx;exact hl _ .returning) hc
 ·rename_i v s hcode
  exact main (.panic v) s (.panicking v false) hcode (fun φ x a w R n hx hl=>by cases hx with | panic hv=>exact hl _ (.panicking false hv)) hc
 ·cases hc
where
 leave_shape {fn:Func} {t:List Value} {h:Hp}:∀(ds:List Deferred) (m:Mo) (hf:Hp) (o:Out),leave P self fn t h ds m hf=some o→(∃v h',o=.ret v h')∨(∃v h',o=.pan v h')
 | [],.returning,hf,o,hl=>by
  simp only[leave,Option.map_eq_some_iff]at hl;obtain ⟨v,_,rfl⟩:=hl;exact .inl ⟨_,_,rfl⟩
 | [],.panicking v false,hf,o,hl=>by
  simp only[leave,Option.some.injEq]at hl;subst hl;exact .inr ⟨_,_,rfl⟩
 | [],.panicking v true,hf,o,hl=>by simp [leave]at hl
 | d::ds,m,hf,o,hl=>by
  simp only[leave]at hl
  split at hl
  ·split at hl
   ·exact leave_shape ds _ _ o hl
   ·cases hl
  ·split at hl
   ·split at hl
    ·exact leave_shape ds _ _ o hl
    ·cases hl
   ·cases hl
  ·cases hl
end
section
variable {P:Program}{self:Self}
def DQ (K:Nat→Prop)(w0:World) (φ:Phi)(e:Ex) (s':St) (m':Mo)(c0:Frame)(cs:List Frame)(x:Exit)(a:Act) (cs':List Frame) (w':World):Prop :=
 ∃φ' u',le φ φ'∧ExR φ' e x∧VRs φ' s'.t.toArray a.tmps∧DRs φ' s'.d a.defers∧Inv K w0 φ' s'.h.bl w'∧MoR φ' m' u'∧cs'={ c0 with mode:=u' }::cs
theorem DQ.mono {K:Nat→Prop}{w0:World} {φ ψ:Phi}(hle:le φ ψ) {e:Ex} {s':St} {m':Mo}{c0:Frame}{cs:List Frame}{x:Exit}{a:Act} {cs':List Frame} {w':World}(h:DQ K w0 ψ e s' m' c0 cs x a cs' w'):DQ K w0 φ e s' m' c0 cs x a cs' w':=by
 obtain ⟨φ',u',h1,h2⟩:=h;exact ⟨φ',u',le_trans hle h1,h2⟩
theorem wpSIn_mono {F:Fence}{n:Nat}{c:Code} {Q Q':Exit→Act→List Frame→World→Prop}{a:Act}{cs:List Frame}{w:World}(hq:∀e a cs w,Q e a cs w→Q' e a cs w) (h:c.wpSIn F n P Q a cs w):c.wpSIn F n P Q' a cs w :=
 fun b k hb hr hF hroom=>let ⟨e,a',cs',w',l,q,r⟩:=h b k hb hr hF hroom;⟨e,a',cs',w',l,hq _ _ _ _ q,r⟩
theorem runDOps_sound (hN:NoNG P) {os:Array Oper}:∀(l:List Nat) (s:St) (m:Mo) (e:Ex) (s':St) (m':Mo),runDOps P os l s m=some (e,s',m')→s.h.base≤s.h.bl.length →
  Pres s.h s'.h∧∀(K:Nat→Prop) (w0:World) (φ:Phi) (w:World) (a:Act) (c0:Frame) (cs:List Frame) (u:FrameMode) (n:Nat) (Q:Exit→Act→List Frame→World→Prop),
   Inv K w0 φ s.h.bl w→VRs φ s.t.toArray a.tmps→DRs φ s.d a.defers→MoR φ m u→(∀x a cs' w',DQ K w0 φ e s' m' c0 cs x a cs' w'→Q x a cs' w')→wpOpsSIn Fence.wide n P os Q l a ({ c0 with mode:=u }::cs) w
 | [],s,m,e,s',m',h,_=>by
  simp only[runDOps,Option.some.injEq,Prod.mk.injEq]at h;obtain ⟨rfl,rfl,rfl⟩:=h
  refine ⟨Pres.refl _,?_⟩
  intro K w0 φ w a c0 cs u n Q hI ht hd hm hQ;exact hQ _ _ _ _ ⟨φ,u,le_refl φ,.normal,ht,hd,hI,hm,rfl⟩
 | i::r,s,m,e,s',m',h,hb=>by
  simp only[runDOps,putK_eq,forceH_eq]at h
  cases ho:os[i]? with
  | none =>
   rw[ho]at h;obtain ⟨hp,hh⟩:=runDOps_sound hN r s m e s' m' h hb
   refine ⟨hp,?_⟩
   intro K w0 φ w a c0 cs u n Q hI ht hd hm hQ;simp only[wpOpsSIn,ho];exact hh K w0 φ w a c0 cs u n Q hI ht hd hm hQ
  | some o =>
   rw[ho]at h;simp only at h
   by_cases hw:wantedT os s.t o=true
   ·rw[if_pos hw]at h
    split at h
    ·rename_i v h' ha
     have hpr:=runOps_sound.aop_pres hb ha
     have hbase:h'.base≤h'.bl.length:=by rw[hpr.base];exact Nat.le_trans hb hpr.len
     obtain ⟨hp,hh⟩:=runDOps_sound hN r _ m e s' m' h hbase
     refine ⟨hpr.trans hp,?_⟩
     intro K w0 φ w a c0 cs u n Q hI ht hd hm hQ;obtain ⟨_,φ',v',w',hr,hle,hv,hI'⟩:=aop_sound hN hb hI (evs_t ht) ha;simp only[wpOpsSIn,ho]
     rw[if_pos (by rw[wanted_eq ht];exact hw)]
     refine ⟨fun f _=>trivial,?_⟩
     have hrest:wpOpsSIn Fence.wide n P os Q r (a.put o.dst v') ({ c0 with mode:=u }::cs) w':=hh K w0 φ' w' _ c0 cs u n Q hI' (by exact vrs_put (ht.mono hle) hv _) (by rw[put_defers];exact hd.mono hle) (hm.mono hle) (fun x a cs' w'' hc=>hQ x a cs' w'' (hc.mono hle))
     rcases hr with hr | ⟨hr,rfl⟩
     ·rw[hr];exact hrest
     ·rw[hr];exact hrest
    ·rename_i ha
     split at h
     ·rename_i v
      obtain ⟨hp,hh⟩:=runDOps_sound hN r _ _ e s' m' h hb
      refine ⟨hp,?_⟩
      intro K w0 φ w a c0 cs u n Q hI ht hd hm hQ;have hr:(execOp a.eval o).run P w=.ok .recover w:=aop_sound hN hb hI (evs_t ht) ha
      cases hm with
      | @panicking _ v' _ hv =>
       simp only[wpOpsSIn,ho]
       rw[if_pos (by rw[wanted_eq ht];exact hw)]
       refine ⟨fun f _=>trivial,?_⟩
       rw[hr]
       exact hh K w0 φ w _ c0 cs (.panicking [{ v:=v',recovered:=true }]) n Q hI (by exact vrs_put ht hv _) (by rw[put_defers];exact hd) (.panicking true hv) hQ
     ·rename_i hne
      obtain ⟨hp,hh⟩:=runDOps_sound hN r _ _ e s' m' h hb
      refine ⟨hp,?_⟩
      intro K w0 φ w a c0 cs u n Q hI ht hd hm hQ;have hr:(execOp a.eval o).run P w=.ok .recover w:=aop_sound hN hb hI (evs_t ht) ha
      have hrec:recoverD ({ c0 with mode:=u }::cs)=none:=by
       cases hm with
       | returning=>rfl
       | @panicking v _ done hv =>
        cases done with
        | false=>exact absurd rfl (hne v)
        | true=>rfl
      simp only[wpOpsSIn,ho]
      rw[if_pos (by rw[wanted_eq ht];exact hw)]
      refine ⟨fun f _=>trivial,?_⟩
      rw[hr];simp only[hrec]
      exact hh K w0 φ w _ c0 cs u n Q hI (by exact vrs_put ht .nilIface _) (by rw[put_defers];exact hd) hm hQ
    ·cases h
   ·rw[if_neg hw]at h
    obtain ⟨hp,hh⟩:=runDOps_sound hN r _ m e s' m' h hb
    refine ⟨hp,?_⟩
    intro K w0 φ w a c0 cs u n Q hI ht hd hm hQ;simp only[wpOpsSIn,ho]
    rw[if_neg (by rw[wanted_eq ht];exact hw)]
    exact ⟨fun f _=>trivial,hh K w0 φ w _ c0 cs u n Q hI (by exact vrs_put ht (VR.undef φ) _) (by rw[put_defers];exact hd) hm hQ⟩
def DOk (P:Program)(c:Code)(s:St)(m:Mo)(e:Ex) (s':St) (m':Mo):Prop:=s.h.base≤s.h.bl.length →
  Pres s.h s'.h∧∀(K:Nat→Prop) (w0:World) (φ:Phi) (w:World) (a:Act) (c0:Frame) (cs:List Frame) (u:FrameMode) (n:Nat),
   Inv K w0 φ s.h.bl w→VRs φ s.t.toArray a.tmps→DRs φ s.d a.defers→MoR φ m u→c.wpSIn Fence.wide n P (DQ K w0 φ e s' m' c0 cs) a ({ c0 with mode:=u }::cs) w
theorem dplain (hs:SelfOk P self) {c:Code}{s:St}{m:Mo}{e:Ex} {s':St} {m':Mo}(h:(match self (.code none c s) with | some (.ex e s')=>some (e,s',m) | _=>none)=some (e,s',m')):DOk P c s m e s' m':=by
 split at h
 ·rename_i e1 s1 hc
  simp only[Option.some.injEq,Prod.mk.injEq]at h;obtain ⟨rfl,rfl,rfl⟩:=h;intro hb;obtain ⟨hp,hh⟩:=hs _ _ hc hb
  refine ⟨hp,?_⟩
  intro K w0 φ w a c0 cs u n hI ht hd hm
  refine wpSIn_of_wpIn rfl (wpIn_mono (hh K w0 φ w a Fence.wide n hI ht hd rfl) ?_)
  rintro x a' w' ⟨φ',hle,hx,ht',hd',hI'⟩
  exact ⟨φ',u,hle,hx,ht',hd',hI',hm.mono hle,rfl⟩
 ·cases h
theorem dcode_sound (hN:NoNG P)(hs:SelfOk P self):∀(c:Code) (s:St) (m:Mo) (e:Ex) (s':St) (m':Mo),dcode P self c s m=some (e,s',m')→DOk P c s m e s' m'
 | .seq x y,s,m,e,s',m',h=>by
  simp only[dcode]at h;intro hb
  cases hx:dcode P self x s m with
  | none=>rw[hx]at h;cases h
  | some r =>
   obtain ⟨e1,s1,m1⟩:=r;rw[hx]at h;obtain ⟨hp1,h1⟩:=dcode_sound hN hs x s m e1 s1 m1 hx hb
   have hb1:s1.h.base≤s1.h.bl.length:=by rw[hp1.base];exact Nat.le_trans hb hp1.len
   by_cases hn:e1=.normal
   ·subst hn
    simp only at h;obtain ⟨hp2,h2⟩:=dcode_sound hN hs y s1 m1 e s' m' h hb1
    refine ⟨hp1.trans hp2,?_⟩
    intro K w0 φ w a c0 cs u n hI ht hd hm
    refine wpSIn_seq (wpSIn_mono ?_ (h1 K w0 φ w a c0 cs u n hI ht hd hm))
    rintro x' a' cs' w' ⟨φ',u',hle,hx',ht',hd',hI',hm',rfl⟩
    cases hx'
    exact wpSIn_mono (fun _ _ _ _ hq=>hq.mono hle) (h2 K w0 φ' w' a' c0 cs u' n hI' ht' hd' hm')
   ·have h':(e1,s1,m1)=(e,s',m'):=by
     cases e1<;>first | exact absurd rfl hn | (simp only[Option.some.injEq]at h;exact h)
    cases h'
    refine ⟨hp1,?_⟩
    intro K w0 φ w a c0 cs u n hI ht hd hm
    refine wpSIn_seq (wpSIn_mono ?_ (h1 K w0 φ w a c0 cs u n hI ht hd hm))
    rintro x' a' cs' w' ⟨φ',u',hle,hx',rest⟩
    cases hx' with
    | normal=>exact absurd rfl hn
    | exit id=>exact ⟨φ',u',hle,.exit id,rest⟩
    | goto l=>exact ⟨φ',u',hle,.goto l,rest⟩
    | ret=>exact ⟨φ',u',hle,.ret,rest⟩
    | panic hv=>exact ⟨φ',u',hle,.panic hv,rest⟩
 | .cond c x y,s,m,e,s',m',h=>by
  simp only[dcode]at h;intro hb
  split at h
  ·rename_i hc
   split at h
   ·rename_i hv
    obtain ⟨hp,hh⟩:=dcode_sound hN hs x s m e s' m' h hb
    refine ⟨hp,?_⟩
    intro K w0 φ w a c0 cs u n hI ht hd hm;have hcv:=evs_t ht c hc;rw[hv]at hcv;exact wpSIn_cond (t:=true) (gr_eq (v:=.bool true) rfl hcv) (hh K w0 φ w a c0 cs u n hI ht hd hm)
   ·rename_i hv
    obtain ⟨hp,hh⟩:=dcode_sound hN hs y s m e s' m' h hb
    refine ⟨hp,?_⟩
    intro K w0 φ w a c0 cs u n hI ht hd hm;have hcv:=evs_t ht c hc;rw[hv]at hcv;exact wpSIn_cond (t:=false) (gr_eq (v:=.bool false) rfl hcv) (hh K w0 φ w a c0 cs u n hI ht hd hm)
   ·cases h
  ·cases h
 | .region id os dr,s,m,e,s',m',h=>by
  simp only[dcode]at h
  split at h
  ·rename_i hc
   simp only[Bool.and_eq_true,Bool.not_eq_true']at hc;obtain ⟨_,rfl⟩:=hc;intro hb;obtain ⟨hp,hh⟩:=runDOps_sound hN _ s m e s' m' h hb
   refine ⟨hp,?_⟩
   intro K w0 φ w a c0 cs u n hI ht hd hm
   exact wpSIn_region (hh K w0 φ w a c0 cs u n _ hI ht hd hm (fun _ _ _ _ hq=>hq))
  ·exact dplain hs h
 | .skip,s,m,e,s',m',h=>dplain hs h
 | .block id c,s,m,e,s',m',h=>dplain hs h
 | .loop c,s,m,e,s',m',h=>dplain hs h
 | .rangeFunc g ps as bd,s,m,e,s',m',h=>dplain hs h
 | .exit id,s,m,e,s',m',h=>dplain hs h
 | .scope c,s,m,e,s',m',h=>dplain hs h
 | .label l,s,m,e,s',m',h=>dplain hs h
 | .goto l,s,m,e,s',m',h=>dplain hs h
 | .ret,s,m,e,s',m',h=>dplain hs h
 | .refuse w,s,m,e,s',m',h=>dplain hs h
theorem dcall_sound (hN:NoNG P)(hs:SelfOk P self)(drawn:Program→Self→Option Nat→Nat→Array Oper→St→Option Out) {f:FuncId}{args:Array Value}{m:Mo}{h:Hp}{o:Out}(hc:stepF drawn P self (.dcall f args m h)=some o):TaskOk P (.dcall f args m h) o:=by
 simp only[stepF,forceL1_eq]at hc
 split at hc
 case h_2=>cases hc
 rename_i fn hfn
 split at hc
 case h_2=>cases hc
 rename_i c hbody
 have main:∀(e:Ex) (s:St) (m':Mo),(e=.normal∨e=.ret)→dcode P self c { t:=frame fn args,d:=[],h:=enterH h } m=some (e,s,m') →
   (if s.d.isEmpty then match resB P s.h.bl fn s.t.toArray with | some _=>some (.dret m' (exitH h s.h (moVal m'))) | none=>none else none)=some o→TaskOk P (.dcall f args m h) o:=by
  intro e s m' he hd ho
  split at ho
  ·rename_i hemp
   split at ho
   ·rename_i v hv
    simp only[Option.some.injEq]at ho;subst ho;intro hb;obtain ⟨hp,hh⟩:=dcode_sound hN hs c _ m e s m' hd (Nat.le_refl _)
    refine ⟨exit_pres hb hp _,?_⟩
    intro K w0 φ w args' u n hI hargs hm
    refine callsDIn_of_wpSIn hfn hbody trivial ?_
    intro c0 cs hu
    have hc0:({ c0 with mode:=u }:Frame)=c0:=by subst hu;rfl
    have hw:=hh K w0 φ w { tmps:=args'++Array.replicate (fn.ntmps-args'.size) undef,defers:=[] } c0 cs u n hI (vrs_frame fn hargs) .nil hm;rw[hc0]at hw
    refine wpSIn_mono ?_ hw
    rintro x a cs' w' ⟨φ',u',hle,hx,ht,hdd,hI',hm',rfl⟩
    have hnil:a.defers=[]:=by
     have:s.d=[]:=List.isEmpty_iff.1 hemp;rw[this]at hdd
     have key:∀l,DRs φ' [] l→l=[]:=fun l h=>by cases h;rfl
     exact key _ hdd
    obtain ⟨v',hr,hvv⟩:=resB_sound hI' ht hv
    obtain ⟨φ'',k1,hmo,k3⟩:∃φ'',le φ φ''∧MoR φ'' m' u'∧Inv K w0 φ'' (exitH h s.h (moVal m')).bl w':=by
     cases hm' with
     | returning =>
      obtain ⟨_,φ'',k1,k2,k3⟩:=exit_sound hb hI hI' hle hp (VR.undef φ');exact ⟨φ'',k1,.returning,k3⟩
     | panicking done hvm =>
      obtain ⟨_,φ'',k1,k2,k3⟩:=exit_sound hb hI hI' hle hp hvm;exact ⟨φ'',k1,.panicking done k2,k3⟩
    rcases he with rfl | rfl
    ·cases hx
     exact ⟨hnil,u',rfl,v',hr,v',rfl,φ'',k1,hmo,k3⟩
    ·cases hx
     exact ⟨hnil,u',rfl,v',hr,v',rfl,φ'',k1,hmo,k3⟩
   ·cases ho
  ·cases ho
 split at hc
 ·rename_i s m' hd
  exact main .normal s m' (.inl rfl) hd hc
 ·rename_i s m' hd
  exact main .ret s m' (.inr rfl) hd hc
 ·cases hc
end
section
variable {P:Program}{self:Self}
theorem zip_fold {φ:Phi}:∀(ps:List Tmp) {l l':List Value} (_:VRl φ l l') {t t':Array Value} (_:VRs φ t t'),VRs φ ((ps.zip l).foldl (fun t (p,a)=>t.setIfInBounds p a) t) ((ps.zip l').foldl (fun t (p,a)=>t.setIfInBounds p a) t')
 | [],_,_,_,_,_,ht=>ht
 | _::_,_,_,.nil,_,_,ht=>ht
 | p::ps,_,_,.cons hv hr,_,_,ht=>zip_fold ps hr (ht.set hv p)
theorem zip_tmps {φ:Phi}(ps:Array Tmp) {args args' t t':Array Value}(ha:VRs φ args args') (ht:VRs φ t t') :
  VRs φ ((ps.zip args).foldl (fun t (p,a)=>t.setIfInBounds p a) t) ((ps.zip args').foldl (fun t (p,a)=>t.setIfInBounds p a) t'):=by
 rw[← Array.foldl_toList,← Array.foldl_toList,Array.toList_zip,Array.toList_zip];exact zip_fold _ ha.toList ht
theorem round_sound (hs:SelfOk P self)(drawn:Program→Self→Option Nat→Nat→Array Oper→St→Option Out) {l:Nat}{args:Array Value}{h:Hp}{o:Out}(hc:stepF drawn P self (.round l args h)=some o):TaskOk P (.round l args h) o:=by
 simp only[stepF]at hc
 split at hc
 case h_2=>cases hc
 rename_i pend t ps assign body D hl
 split at hc
 case isFalse=>cases hc
 rename_i hsz
 split at hc
 case h_2=>cases hc
 rename_i s1 hassign
 split at hc
 case h_2=>cases hc
 rename_i pend1 t1 ps1 a1 b1 D1 hl1
 split at hc
 case h_2=>cases hc
 rename_i e s2 hbody
 split at hc
 case h_2=>cases hc
 rename_i j st2 pend2 t2 ps2 a2 b2 D2 hj hl2;simp only[Option.some.injEq]at hc;subst hc;intro hb;obtain ⟨hp1,hh1⟩:=hs _ _ hassign hb
 have hb1:s1.h.base≤s1.h.bl.length:=by rw[hp1.base];exact Nat.le_trans hb hp1.len
 have hpb:=Pres.put s1.h l (.loop .busy pend1 t1 ps1 a1 b1 D1)
 obtain ⟨hp2,hh2⟩:=hs _ _ hbody (by rw[hpb.base];exact Nat.le_trans hb1 hpb.len)
 refine ⟨hp1.trans (hpb.trans (hp2.trans (Pres.put _ _ _))),?_⟩
 intro K w0 φ w args' B tb n hI hargs hφ;obtain ⟨B',base',tot',q1,_,fn,tm,D',q2,q3,td,q4⟩:=hI.obs l _ hl rfl;rw[hφ]at q1;cases q1
 refine ⟨fn,_,assign,body,run_yield q2 (by simp only;rw[← hargs.size];exact hsz),roundIn_of_wpIn trivial (wpIn_mono (hh1 K w0 φ w _ (Fence.wide.inRound B) n hI (zip_tmps ps hargs q3) .nil ⟨B,tb,hφ,rfl⟩) ?_)⟩
 rintro x a w1 ⟨φ1,hle1,hx,ht1,hd1,hI1⟩
 cases hx
 obtain ⟨B',base',tot',r1,r0,fn1,tm1,D1',r2,r3,td1,r4⟩:=hI1.obs l _ hl1 rfl;rw[hle1 _ _ hφ]at r1;cases r1
 have hlt:B<w1.heap.size:=(Array.getElem?_eq_some_iff.1 r2).1
 refine ⟨_,run_beginRound r2 rfl,?_⟩
 have hI1':Inv K w0 φ1 (s1.h.put l (.loop .busy pend1 t1 ps1 a1 b1 D1)).bl (w1.putObj B (.loop { state:=.busy,pending:=pend1,fn:=fn1,tmps:=tm1,params:=ps1,assign:=a1,body:=b1,defers:=D1' })) :=
  hI1.write hl1 rfl (hle1 _ _ hφ) putObj_frame (by simp) rfl rfl rfl ⟨rfl,fn1,tm1,D1',World.putObj_heap_same hlt,r3,td1,r4⟩
 refine wpIn_mono (hh2 K w0 φ1 _ a (Fence.wide.inRound B) n hI1' ht1 hd1 ⟨B,tb,hle1 _ _ hφ,rfl⟩) ?_
 rintro x a' w2 ⟨φ2,hle2,hx,ht2,hd2,hI2⟩
 obtain ⟨B',base',tot',k1,k0,fn2,tm2,D2',k2,k3,td2,k4⟩:=hI2.obs l _ hl2 rfl;rw[hle2 _ _ (hle1 _ _ hφ)]at k1;cases k1
 have hlt2:B<w2.heap.size:=(Array.getElem?_eq_some_iff.1 k2).1
 have fin:∀jump:Option Code,j=jump→∃v w',(Instr.endRound B jump).run P w2=.ok v w'∧RetR K w0 φ (.bool j.isNone) (s2.h.put l (.loop (if j.isNone then .ready else .done) j t2 ps2 a2 b2 D2)) (.returned v) w':=by
  rintro jump rfl
  refine ⟨_,_,run_endRound j k2,φ2,le_trans hle1 hle2,.bool _,?_⟩
  exact hI2.write hl2 rfl (hle2 _ _ (hle1 _ _ hφ)) putObj_frame (by simp) rfl rfl rfl ⟨rfl,fn2,tm2,D2',World.putObj_heap_same hlt2,k3,td2,k4⟩
 cases hx with
 | normal=>simp only[jumpOf,Option.some.injEq]at hj;exact fin none hj.symm
 | ret=>simp only[jumpOf,Option.some.injEq]at hj;exact fin _ hj.symm
 | exit id=>simp only[jumpOf,Option.some.injEq]at hj;exact fin _ hj.symm
 | goto t=>simp only[jumpOf,Option.some.injEq]at hj;exact fin _ hj.symm
 | panic hv=>simp [jumpOf]at hj
def DrawnOk (P:Program)(drawn:Program→Self→Option Nat→Nat→Array Oper→St→Option Out):Prop :=
 ∀(self:Self),SelfOk P self→∀(rd:Option Nat) (id:Nat) (os:Array Oper) (s:St) (o:Out),drawn P self rd id os s=some o→TaskOk P (.code rd (.region id os true) s) o
theorem endLoop_sound (hs:SelfOk P self) {rd:Option Nat}{L:Nat}{d:List Deferred}{t:List Value}{h:Hp}{v:Value}{o:Out}(he:endLoop self rd L d t (some (.ret v h))=some o) (hb:h.base≤h.bl.length) :
  ∃e s',o=.ex e s'∧Pres h s'.h∧∀(K:Nat→Prop) (w0:World) (φ:Phi) (w:World) (a:Act) (F:Fence) (n:Nat) (B tb:Nat),
   Inv K w0 φ h.bl w→VRs φ t.toArray a.tmps→DRs φ d a.defers→FenceOk φ rd F→φ L=some (B,0,tb) →
   ∃jump w',(Instr.endLoop B).run P w=.ok jump w'∧(match jump with | none=>CodeR K w0 φ e s' .normal a w' | some c=>c.wpIn F n P (CodeR K w0 φ e s') a w'):=by
 simp only[endLoop]at he
 split at he
 case h_2=>cases he
 rename_i st pend t' ps as bd D hl
 split at he
 ·cases he
 rename_i hst
 have hpp:=fun p=>Pres.put h L (.loop .exhausted p t' ps as bd D)
 have step:∀(K:Nat→Prop) (w0:World) (φ:Phi) (w:World) (B tb:Nat),Inv K w0 φ h.bl w→φ L=some (B,0,tb) →
   ∃w',(Instr.endLoop B).run P w=.ok pend w'∧Inv K w0 φ (h.put L (.loop .exhausted pend t' ps as bd D)).bl w':=by
  intro K w0 φ w B tb hI hφ;obtain ⟨B',base',tot',k1,k0,fn2,tm2,D2',k2,k3,td2,k4⟩:=hI.obs L _ hl rfl;rw[hφ]at k1;cases k1
  have hlt:B<w.heap.size:=(Array.getElem?_eq_some_iff.1 k2).1
  exact ⟨_,run_endLoop k2 hst,hI.write hl rfl hφ putObj_frame (by simp) rfl rfl rfl ⟨rfl,fn2,tm2,D2',World.putObj_heap_same hlt,k3,td2,k4⟩⟩
 cases pend with
 | none =>
  simp only[Option.some.injEq]at he;subst he
  refine ⟨.normal,_,rfl,hpp _,?_⟩
  intro K w0 φ w a F n B tb hI ht hd hF hφ;obtain ⟨w',hr,hI'⟩:=step K w0 φ w B tb hI hφ;exact ⟨none,w',hr,φ,le_refl φ,.normal,ht,hd,hI'⟩
 | some c =>
  simp only at he
  split at he
  ·rename_i e s' hc
   simp only[Option.some.injEq]at he;subst he
   obtain ⟨hp,hh⟩:=hs _ _ hc (by simp only;rw[(hpp _).base];exact Nat.le_trans hb (hpp _).len)
   refine ⟨e,s',rfl,(hpp _).trans hp,?_⟩
   intro K w0 φ w a F n B tb hI ht hd hF hφ;obtain ⟨w',hr,hI'⟩:=step K w0 φ w B tb hI hφ;exact ⟨some c,w',hr,hh K w0 φ w' a F n hI' ht hd hF⟩
  ·cases he
theorem endLoop_ret {rd:Option Nat}{L:Nat}{d:List Deferred}{t:List Value}{x:Option Out}{o:Out}(he:endLoop self rd L d t x=some o):∃v h,x=some (.ret v h):=by
 unfold endLoop at he
 split at he
 ·exact ⟨_,_,rfl⟩
 ·cases he
theorem run_enterLoop_inner {w:World}{l:Nat}{r:Loop}(h:w.heap[l]?=some (.loop r)) (fn:FuncId) (tmps:Array Value) (ps:Array Tmp) (assign body:Code) :
  (Instr.enterLoop fn tmps ps assign body (some l)).run P w=.ok (w.heap.size,[]) (w.alloc (.loop { state:=.ready,pending:=none,fn,tmps,params:=ps,assign,body,defers:=r.defers })):=by
 unfold Instr.enterLoop;simp only[Sem.run_bind,run_getLoop h,Result.andThen_ok,Sem.run_pure,run_newObj]
 rfl
theorem rangeFunc_sound (hN:NoNG P)(hs:SelfOk P self)(drawn:Program→Self→Option Nat→Nat→Array Oper→St→Option Out) {rd:Option Nat}{g:Operand}{ps:Array Tmp}{assign body:Code}{s:St}{o:Out}
  (hc:stepF drawn P self (.code rd (.rangeFunc g ps assign body) s)=some o):TaskOk P (.code rd (.rangeFunc g ps assign body) s) o:=by
 simp only[stepF]at hc
 split at hc
 case isFalse=>cases hc
 rename_i hg
 split at hc
 case h_2=>cases hc
 rename_i f first cap hv
 split at hc
 case isFalse=>cases hc
 rename_i hbd
 have hval:∀{φ:Phi} {a:Act},VRs φ s.t.toArray a.tmps→∃first' cap',a.eval g=.func (.func f) first' cap'∧VRs φ first first'∧VRs φ cap cap':=by
  intro φ a ht;have hgv:=evs_t ht g hg;rw[hv]at hgv
  generalize a.eval g=x at hgv
  cases hgv with
  | fn _ h1 h2 h3 h4=>exact ⟨_,_,rfl,VRs.of h1 h2,VRs.of h3 h4⟩
 have hargs:∀{φ:Phi} {first' cap':Array Value} {L B tb:Nat},VRs φ first first'→VRs φ cap cap'→φ L=some (B,0,tb)→VRs φ (first++#[.func (.yield L) #[] #[]]++cap) (first'++#[.func (.yield B) #[] #[]]++cap') :=
  fun h1 h2 h3=>(h1.append (VRs.one (.yield h3))).append h2
 have hres:∀{a:Act} {first' cap':Array Value} {w:World} (l:Nat),a.eval g=.func (.func f) first' cap'→(resolve a.eval (rangeCall g l) 0).run P w=.ok { target:=.fn (.func f) cap',args:=first'++#[.func (.yield l) #[] #[]] } w:=by
  intro a first' cap' w l he
  have e:Array.map a.eval #[Operand.const (.func (.yield l) #[] #[])]=#[.func (.yield l) #[] #[]]:=by simp [Act.eval]
  simp only[resolve,he,Deferred.ofValue,e,Sem.run_pure]
 cases rd with
 | none =>
  simp only at hc;obtain ⟨v,h',hcall⟩:=endLoop_ret hc;rw[hcall]at hc
  have hp0:∀hb:s.h.base≤s.h.bl.length,Pres s.h ((s.h.push (.dfr false)).push (loopNew s ps assign body s.h.bl.length)):=fun hb=>(Pres.push _ _ hb).trans (Pres.push _ _ (by simp [Hp.push];omega))
  have hbase0:s.h.base≤s.h.bl.length→((s.h.push (.dfr false)).push (loopNew s ps assign body s.h.bl.length)).base≤((s.h.push (.dfr false)).push (loopNew s ps assign body s.h.bl.length)).bl.length:=fun hb=>by simp [Hp.push];omega
  have hcallok:=hs _ _ hcall
  by_cases hb:s.h.base≤s.h.bl.length
  ·obtain ⟨hp1,hcc⟩:=hcallok (hbase0 hb)
   obtain ⟨e,s',rfl,hp2,hh⟩:=endLoop_sound hs hc (by rw[hp1.base];exact Nat.le_trans (hbase0 hb) hp1.len)
   refine fun _=>⟨(hp0 hb).trans (hp1.trans hp2),?_⟩
   intro K w0 φ w a F n hI ht hd hF;have hF':F=Fence.wide:=hF;subst hF';obtain ⟨first',cap',he,h1,h2⟩:=hval ht
   refine wpIn_rangeFunc ?_
   intro fn _;obtain ⟨rec,hrec⟩:∃rec:Loop,rec={ state:=.ready,pending:=none,fn,tmps:=a.tmps,params:=ps,assign,body,defers:=w.heap.size }:=⟨_,rfl⟩;have hI1:=hI.alloc (.dfr false) (.deferred (some [])) 0 ⟨rfl,World.alloc_heap_new w _⟩;have hle1:=hI.le_new (w.heap.size,0,0)
   have hlen:(s.h.bl++[Ob.dfr false]).length=s.h.bl.length+1:=by simp
   have hsz1:(w.alloc (.deferred (some []))).heap.size=w.heap.size+1:=World.size_alloc _ _;have hle2:=hI1.le_new ((w.alloc (.deferred (some []))).heap.size,0,0)
   have hI2:=hI1.alloc (loopNew s ps assign body s.h.bl.length) (.loop rec) 0
    ⟨rfl,fn,a.tmps,w.heap.size,by rw[World.alloc_heap_new,hrec],(ht.mono hle1).mono hle2,0,hle2 _ _ (up_same _ _ _)⟩
   rw[hlen,hsz1]at hI2 hle2;have hφL:up (up φ s.h.bl.length (w.heap.size,0,0)) (s.h.bl.length+1) (w.heap.size+1,0,0) (s.h.bl.length+1)=some (w.heap.size+1,0,0):=up_same _ _ _;have hle:=le_trans hle1 hle2
   refine ⟨w.heap.size+1,[{ target:=.collected w.heap.size,args:=#[] }],(w.alloc (.deferred (some []))).alloc (.loop rec),_,_,f,first'++#[.func (.yield (w.heap.size+1)) #[] #[]]++cap',(w.alloc (.deferred (some []))).alloc (.loop rec),by rw[hrec];exact run_enterLoop_outer _ _ _ _ _,hres _ he,fun _ _=>trivial,?_,(fun h=>nomatch h),?_⟩
   ·simp only[invoke];exact run_callFunc hN hbd
   ·refine (hcc K w0 _ _ _ (n-1) hI2 (hargs (h1.mono hle) (h2.mono hle) hφL)).mono ?_
    intro en w3 hen
    cases en with
    | returned v' =>
     obtain ⟨φ3,hle3,_,hI3⟩:=hen
     obtain ⟨jump,w4,hr,hj⟩:=hh K w0 φ3 w3 { a with defers:=[{ target:=.collected w.heap.size,args:=#[] }]++a.defers } Fence.wide n (w.heap.size+1) 0 hI3 ((ht.mono hle).mono hle3)
      (.cons (.inr ⟨_,_,0,rfl,rfl,hle3 _ _ (hle2 _ _ (up_same _ _ _))⟩) ((hd.mono hle).mono hle3)) rfl (hle3 _ _ hφL)
     refine ⟨jump,w4,hr,?_⟩
     cases jump with
     | none=>exact hj.mono (le_trans hle hle3)
     | some c=>exact wpIn_mono hj fun _ _ _ hq=>hq.mono (le_trans hle hle3)
    | panicked ch=>exact hen.elim
    | outgrown=>exact hen.elim
  ·exact absurd_out hs hc hb
 | some l0 =>
  simp only at hc
  split at hc
  case h_2=>cases hc
  rename_i st0 pend0 t0 ps0 as0 bd0 D hl0;obtain ⟨v,h',hcall⟩:=endLoop_ret hc;rw[hcall]at hc;have hcallok:=hs _ _ hcall
  have hbase0:s.h.base≤s.h.bl.length→(s.h.push (loopNew s ps assign body D)).base≤(s.h.push (loopNew s ps assign body D)).bl.length:=fun hb=>by simp [Hp.push];omega
  by_cases hb:s.h.base≤s.h.bl.length
  ·obtain ⟨hp1,hcc⟩:=hcallok (hbase0 hb)
   obtain ⟨e,s',rfl,hp2,hh⟩:=endLoop_sound hs hc (by rw[hp1.base];exact Nat.le_trans (hbase0 hb) hp1.len)
   refine fun _=>⟨(Pres.push _ _ hb).trans (hp1.trans hp2),?_⟩
   intro K w0 φ w a F n hI ht hd hF;have hFF:=hF;obtain ⟨L0,tl0,hφ0,hFe⟩:=hF;obtain ⟨first',cap',he,h1,h2⟩:=hval ht;obtain ⟨B',base',tot',q1,_,fn0,tm0,D0,q2,q3,td,q4⟩:=hI.obs l0 _ hl0 rfl;rw[hφ0]at q1;cases q1
   refine wpIn_rangeFunc ?_
   intro fn _;obtain ⟨rec,hrec⟩:∃rec:Loop,rec={ state:=.ready,pending:=none,fn,tmps:=a.tmps,params:=ps,assign,body,defers:=D0 }:=⟨_,rfl⟩;have hle:=hI.le_new (w.heap.size,0,0)
   have hI2:=hI.alloc (loopNew s ps assign body D) (.loop rec) 0 ⟨rfl,fn,a.tmps,D0,by rw[World.alloc_heap_new,hrec],ht.mono hle,td,hle _ _ q4⟩
   have hφL:up φ s.h.bl.length (w.heap.size,0,0) s.h.bl.length=some (w.heap.size,0,0):=up_same _ _ _
   refine ⟨w.heap.size,[],w.alloc (.loop rec),_,_,f,first'++#[.func (.yield w.heap.size) #[] #[]]++cap',w.alloc (.loop rec),by rw[hrec,hFe];exact run_enterLoop_inner q2 _ _ _ _ _,hres _ he,fun _ _=>hFF.fn _,?_,hFF.depth n,?_⟩
   ·simp only[invoke];exact run_callFunc hN hbd
   ·refine (hFF.calls (hcc K w0 _ _ _ (n-1) hI2 (hargs (h1.mono hle) (h2.mono hle) hφL))).mono ?_
    intro en w3 hen
    cases en with
    | returned v' =>
     obtain ⟨φ3,hle3,_,hI3⟩:=hen
     obtain ⟨jump,w4,hr,hj⟩:=hh K w0 φ3 w3 { a with defers:=[]++a.defers } F n w.heap.size 0 hI3 ((ht.mono hle).mono hle3) ((hd.mono hle).mono hle3) ((hFF.mono hle).mono hle3) (hle3 _ _ hφL)
     refine ⟨jump,w4,hr,?_⟩
     cases jump with
     | none=>exact hj.mono (le_trans hle hle3)
     | some c=>exact wpIn_mono hj fun _ _ _ hq=>hq.mono (le_trans hle hle3)
    | panicked ch=>exact hen.elim
    | outgrown=>exact hen.elim
  ·exact absurd_out hs hc hb
where
 absurd_out {self:Self} (hs:SelfOk P self) {rd:Option Nat} {L:Nat} {d:List Deferred} {t:List Value} {v:Value} {h:Hp} {c:Code} {s:St} {o:Out} (he:endLoop self rd L d t (some (.ret v h))=some o) (hb:¬s.h.base≤s.h.bl.length):TaskOk P (.code rd c s) o:=by
  have:∃e s',o=.ex e s':=by
   simp only[endLoop]at he
   split at he
   ·split at he
    ·cases he
    ·split at he
     ·simp only[Option.some.injEq]at he;exact ⟨_,_,he.symm⟩
     ·split at he
      ·simp only[Option.some.injEq]at he;exact ⟨_,_,he.symm⟩
      ·cases he
   ·cases he
  obtain ⟨e,s',rfl⟩:=this
  exact fun h=>absurd h hb
end
section
variable {P:Program}{self:Self}{drawn:Program→Self→Option Nat→Nat→Array Oper→St→Option Out}
theorem base_of {h h':Hp}(hb:h.base≤h.bl.length) (hp:Pres h h'):h'.base≤h'.bl.length:=by rw[hp.base];exact Nat.le_trans hb hp.len
theorem seq_sound (hs:SelfOk P self) {rd:Option Nat}{x y:Code}{s:St}{o:Out}(hc:stepF drawn P self (.code rd (.seq x y) s)=some o):TaskOk P (.code rd (.seq x y) s) o:=by
 simp only[stepF]at hc
 split at hc
 ·rename_i s1 h1
  split at hc
  ·rename_i e s2 h2
   simp only[Option.some.injEq]at hc;subst hc;intro hb;obtain ⟨hp1,hh1⟩:=hs _ _ h1 hb;obtain ⟨hp2,hh2⟩:=hs _ _ h2 (base_of hb hp1)
   refine ⟨hp1.trans hp2,?_⟩
   intro K w0 φ w a F n hI ht hd hF
   refine wpIn_seq (wpIn_mono (hh1 K w0 φ w a F n hI ht hd hF) ?_)
   rintro x a' w' ⟨φ',hle,hx,ht',hd',hI'⟩
   cases hx
   exact wpIn_mono (hh2 K w0 φ' w' a' F n hI' ht' hd' (hF.mono hle)) fun _ _ _ hq=>hq.mono hle
  ·cases hc
 ·rename_i e s1 hne h1
  simp only[Option.some.injEq]at hc;subst hc;intro hb;obtain ⟨hp1,hh1⟩:=hs _ _ h1 hb
  refine ⟨hp1,?_⟩
  intro K w0 φ w a F n hI ht hd hF
  refine wpIn_seq (wpIn_mono (hh1 K w0 φ w a F n hI ht hd hF) ?_)
  rintro x a' w' ⟨φ',hle,hx,rest⟩
  cases hx with
  | normal=>exact (hne rfl).elim
  | exit id=>exact ⟨φ',hle,.exit id,rest⟩
  | goto l=>exact ⟨φ',hle,.goto l,rest⟩
  | ret=>exact ⟨φ',hle,.ret,rest⟩
  | panic hv=>exact ⟨φ',hle,.panic hv,rest⟩
 ·cases hc
theorem cond_sound (hs:SelfOk P self) {rd:Option Nat}{c:Operand}{x y:Code}{s:St}{o:Out}(hc:stepF drawn P self (.code rd (.cond c x y) s)=some o):TaskOk P (.code rd (.cond c x y) s) o:=by
 simp only[stepF]at hc
 split at hc
 case isFalse=>cases hc
 rename_i hok
 split at hc
 ·rename_i hv
  split at hc
  ·rename_i e s1 h1
   simp only[Option.some.injEq]at hc;subst hc;intro hb;obtain ⟨hp1,hh1⟩:=hs _ _ h1 hb
   refine ⟨hp1,?_⟩
   intro K w0 φ w a F n hI ht hd hF;have hcv:=evs_t ht c hok;rw[hv]at hcv;exact wpIn_cond (t:=true) (gr_eq (v:=.bool true) rfl hcv) (hh1 K w0 φ w a F n hI ht hd hF)
  ·cases hc
 ·rename_i hv
  split at hc
  ·rename_i e s1 h1
   simp only[Option.some.injEq]at hc;subst hc;intro hb;obtain ⟨hp1,hh1⟩:=hs _ _ h1 hb
   refine ⟨hp1,?_⟩
   intro K w0 φ w a F n hI ht hd hF;have hcv:=evs_t ht c hok;rw[hv]at hcv;exact wpIn_cond (t:=false) (gr_eq (v:=.bool false) rfl hcv) (hh1 K w0 φ w a F n hI ht hd hF)
  ·cases hc
 ·cases hc
theorem block_sound (hs:SelfOk P self) {rd:Option Nat}{id:Nat}{c:Code}{s:St}{o:Out}(hc:stepF drawn P self (.code rd (.block id c) s)=some o):TaskOk P (.code rd (.block id c) s) o:=by
 simp only[stepF]at hc
 split at hc
 ·rename_i id' s1 h1
  split at hc
  ·rename_i hid
   subst hid;simp only[Option.some.injEq]at hc;subst hc;intro hb;obtain ⟨hp1,hh1⟩:=hs _ _ h1 hb
   refine ⟨hp1,?_⟩
   intro K w0 φ w a F n hI ht hd hF
   refine wpIn_block (wpIn_mono (hh1 K w0 φ w a F n hI ht hd hF) ?_)
   rintro x a' w' ⟨φ',hle,hx,rest⟩
   cases hx
   simp only[Exit.inBlock,if_true];exact ⟨φ',hle,.normal,rest⟩
  ·rename_i hid
   simp only[Option.some.injEq]at hc;subst hc;intro hb;obtain ⟨hp1,hh1⟩:=hs _ _ h1 hb
   refine ⟨hp1,?_⟩
   intro K w0 φ w a F n hI ht hd hF
   refine wpIn_block (wpIn_mono (hh1 K w0 φ w a F n hI ht hd hF) ?_)
   rintro x a' w' ⟨φ',hle,hx,rest⟩
   cases hx
   simp only[Exit.inBlock,if_neg hid];exact ⟨φ',hle,.exit _,rest⟩
 ·rename_i e s1 hne h1
  simp only[Option.some.injEq]at hc;subst hc;intro hb;obtain ⟨hp1,hh1⟩:=hs _ _ h1 hb
  refine ⟨hp1,?_⟩
  intro K w0 φ w a F n hI ht hd hF
  refine wpIn_block (wpIn_mono (hh1 K w0 φ w a F n hI ht hd hF) ?_)
  rintro x a' w' ⟨φ',hle,hx,rest⟩
  cases hx with
  | normal=>exact ⟨φ',hle,.normal,rest⟩
  | exit id=>exact (hne _ rfl).elim
  | goto l=>exact ⟨φ',hle,.goto l,rest⟩
  | ret=>exact ⟨φ',hle,.ret,rest⟩
  | panic hv=>exact ⟨φ',hle,.panic hv,rest⟩
 ·cases hc
def wpLoopIn (F:Fence)(n:Nat)(P:Program)(c:Code)(Q:Exit→Act→World→Prop)(a:Act)(w:World):Prop :=
 ∀(b:Frame) (k:List Item) (cs:List Frame),b.roundOf=F.round→F.fn b.fn→F.room (cs.length+1+n) →
  ∃e a' w',Q e a' w'∧ArrivesIn (Machine.fenced P F) P (lone (b.atR a (.code c::.inLoop c::k)) cs w) b k cs e a' w'
theorem wpLoopIn_mono {F:Fence}{n:Nat}{c:Code} {Q Q':Exit→Act→World→Prop}{a:Act}{w:World}(h:wpLoopIn F n P c Q a w) (hq:∀e a w,Q e a w→Q' e a w):wpLoopIn F n P c Q' a w :=
 fun b k cs hro hb hr=>let ⟨e,a',w',q,r⟩:=h b k cs hro hb hr;⟨e,a',w',hq _ _ _ q,r⟩
theorem wpIn_of_rounds {F:Fence}{n:Nat}{c:Code}{Q:Exit→Act→World→Prop}{a:Act}{w:World}(h:wpLoopIn F n P c Q a w):(Code.loop c).wpIn F n P Q a w:=by
 intro b k cs hro hb hr;obtain ⟨e,a',w',hq,harr⟩:=h b k cs hro hb hr;exact ⟨e,a',w',hq,.of_steps (.one (fenced_calm hb hr rfl) stepR_loop) harr⟩
theorem rounds_of {F:Fence}{n:Nat}{c:Code}{Q:Exit→Act→World→Prop}{a:Act}{w:World}(h:c.wpIn F n P (Exit.then (wpLoopIn F n P c Q) Q) a w):wpLoopIn F n P c Q a w:=by
 intro b k cs hro hb hr;obtain ⟨e,a₁,w₁,hq,harr⟩:=h b (.inLoop c::k) cs hro hb hr
 cases e with
 | normal =>
  obtain ⟨e₂,a₂,w₂,hq₂,harr₂⟩:=hq b k cs hro hb hr;exact ⟨e₂,a₂,w₂,hq₂,.of_steps (StepsIn.trans harr (.one (fenced_calm hb hr rfl) stepR_inLoop)) harr₂⟩
 | exit id=>exact ⟨_,a₁,w₁,hq,.pass (x:=.inLoop c) rfl (fun _ _=>.inl (by simp)) harr⟩
 | goto l=>exact ⟨_,a₁,w₁,hq,.pass (x:=.inLoop c) rfl (fun _ _=>.inl (by simp)) harr⟩
 | ret=>exact ⟨_,a₁,w₁,hq,.pass (x:=.inLoop c) rfl (fun _ _=>.inl (by simp)) harr⟩
 | panic ch=>exact ⟨_,a₁,w₁,hq,.pass (x:=.inLoop c) rfl (fun _ _=>.inl (by simp)) harr⟩
 | outgrown=>exact ⟨_,a₁,w₁,hq,.pass (x:=.inLoop c) rfl (fun _ _=>.inl (by simp)) harr⟩
def LoopOk (P:Program)(self:Self):Prop:=∀(rd:Option Nat) (c:Code) (s:St) (e:Ex) (s':St),self (.code rd (.loop c) s)=some (.ex e s')→s.h.base≤s.h.bl.length →
 ∀(K:Nat→Prop) (w0:World) (φ:Phi) (w:World) (a:Act) (F:Fence) (n:Nat),Inv K w0 φ s.h.bl w→VRs φ s.t.toArray a.tmps→DRs φ s.d a.defers→FenceOk φ rd F→wpLoopIn F n P c (CodeR K w0 φ e s') a w
theorem loop_sound (hs:SelfOk P self)(hl:LoopOk P self) {rd:Option Nat}{c:Code}{s:St}{o:Out}(hc:stepF drawn P self (.code rd (.loop c) s)=some o) :
  ∃e s',o=.ex e s'∧(s.h.base≤s.h.bl.length→Pres s.h s'.h∧∀(K:Nat→Prop) (w0:World) (φ:Phi) (w:World) (a:Act) (F:Fence) (n:Nat),Inv K w0 φ s.h.bl w→VRs φ s.t.toArray a.tmps→DRs φ s.d a.defers→FenceOk φ rd F→wpLoopIn F n P c (CodeR K w0 φ e s') a w):=by
 simp only[stepF]at hc
 split at hc
 ·rename_i s1 h1
  split at hc
  ·rename_i e s2 h2
   simp only[Option.some.injEq]at hc;subst hc
   refine ⟨e,s2,rfl,fun hb=>?_⟩
   obtain ⟨hp1,hh1⟩:=hs _ _ h1 hb;obtain ⟨hp2,_⟩:=hs _ _ h2 (base_of hb hp1)
   refine ⟨hp1.trans hp2,?_⟩
   intro K w0 φ w a F n hI ht hd hF
   refine rounds_of (wpIn_mono (hh1 K w0 φ w a F n hI ht hd hF) ?_)
   rintro x a' w' ⟨φ',hle,hx,ht',hd',hI'⟩
   cases hx
   exact wpLoopIn_mono (hl _ _ _ _ _ h2 (base_of hb hp1) K w0 φ' w' a' F n hI' ht' hd' (hF.mono hle)) fun _ _ _ hq=>hq.mono hle
  ·cases hc
 ·rename_i e s1 hne h1
  simp only[Option.some.injEq]at hc;subst hc
  refine ⟨e,s1,rfl,fun hb=>?_⟩
  obtain ⟨hp1,hh1⟩:=hs _ _ h1 hb
  refine ⟨hp1,?_⟩
  intro K w0 φ w a F n hI ht hd hF
  refine rounds_of (wpIn_mono (hh1 K w0 φ w a F n hI ht hd hF) ?_)
  rintro x a' w' ⟨φ',hle,hx,rest⟩
  cases hx with
  | normal=>exact (hne rfl).elim
  | exit id=>exact ⟨φ',hle,.exit id,rest⟩
  | goto l=>exact ⟨φ',hle,.goto l,rest⟩
  | ret=>exact ⟨φ',hle,.ret,rest⟩
  | panic hv=>exact ⟨φ',hle,.panic hv,rest⟩
 ·cases hc
theorem step_ok (hN:NoNG P)(hdr:DrawnOk P drawn)(hs:SelfOk P self)(hl:LoopOk P self):SelfOk P (stepF drawn P self):=by
 intro t o hc
 cases t with
 | call f args h=>exact call_sound hN hs drawn hc
 | dcall f args m h=>exact dcall_sound hN hs drawn hc
 | round l args h=>exact round_sound hs drawn hc
 | code rd c s =>
  cases c with
  | seq x y=>exact seq_sound hs hc
  | cond c x y=>exact cond_sound hs hc
  | block id c=>exact block_sound hs hc
  | loop c =>
   obtain ⟨e,s',rfl,hh⟩:=loop_sound hs hl hc;intro hb;obtain ⟨hp,h2⟩:=hh hb
   exact ⟨hp,fun K w0 φ w a F n hI ht hd hF=>wpIn_of_rounds (h2 K w0 φ w a F n hI ht hd hF)⟩
  | rangeFunc g ps assign body=>exact rangeFunc_sound hN hs drawn hc
  | region id os dr =>
   simp only[stepF]at hc
   split at hc
   ·rename_i hd
    subst hd;exact hdr self hs rd id os s o hc
   ·rename_i hd
    have hd':dr=false:=by cases dr<;>simp_all
    subst hd'
    by_cases hb:s.h.base≤s.h.bl.length
    ·obtain ⟨e,s',rfl,hp,hh⟩:=runOps_sound hN hs _ s o hc hb
     exact fun _=>⟨hp,fun K w0 φ w a F n hI ht hd hF=>wpIn_region (hh K w0 φ w a F n _ hI ht hd hF (fun _ _ _ hq=>hq))⟩
    ·obtain ⟨e,s',rfl⟩:=runOps_ex _ _ _ hc
     exact fun h=>absurd h hb
  | skip =>
   simp only[stepF,Option.some.injEq]at hc;subst hc
   exact fun _=>⟨Pres.refl _,fun K w0 φ w a F n hI ht hd hF=>wpIn_skip ⟨φ,le_refl φ,.normal,ht,hd,hI⟩⟩
  | label l =>
   simp only[stepF,Option.some.injEq]at hc;subst hc
   exact fun _=>⟨Pres.refl _,fun K w0 φ w a F n hI ht hd hF=>wpIn_label ⟨φ,le_refl φ,.normal,ht,hd,hI⟩⟩
  | exit id =>
   simp only[stepF,Option.some.injEq]at hc;subst hc
   exact fun _=>⟨Pres.refl _,fun K w0 φ w a F n hI ht hd hF=>wpIn_exit ⟨φ,le_refl φ,.exit id,ht,hd,hI⟩⟩
  | goto l =>
   simp only[stepF,Option.some.injEq]at hc;subst hc
   exact fun _=>⟨Pres.refl _,fun K w0 φ w a F n hI ht hd hF=>wpIn_goto ⟨φ,le_refl φ,.goto l,ht,hd,hI⟩⟩
  | ret =>
   simp only[stepF,Option.some.injEq]at hc;subst hc
   exact fun _=>⟨Pres.refl _,fun K w0 φ w a F n hI ht hd hF=>wpIn_ret ⟨φ,le_refl φ,.ret,ht,hd,hI⟩⟩
  | scope c=>simp [stepF]at hc
  | refuse w=>simp [stepF]at hc
where
 runOps_ex {rd:Option Nat} {os:Array Oper}:∀(l:List Nat) (s:St) (o:Out),runOps P self rd os l s=some o→∃e s',o=.ex e s'
 | [],s,o,h=>by simp only[runOps,Option.some.injEq]at h;exact ⟨_,_,h.symm⟩
 | i::r,s,o,h=>by
  simp only[runOps,putK_eq,forceH_eq]at h
  split at h
  ·exact runOps_ex r _ o h
  ·split at h
   ·split at h
    ·exact runOps_ex r _ o h
    ·split at h
     ·exact runOps_ex r _ o h
     ·simp only[Option.some.injEq]at h;exact ⟨_,_,h.symm⟩
     ·cases h
    ·split at h
     ·exact runOps_ex r _ o h
     ·cases h
    ·split at h
     ·exact runOps_ex r _ o h
     ·cases h
    ·simp only[Option.some.injEq]at h;exact ⟨_,_,h.symm⟩
    ·cases h
   ·exact runOps_ex r _ o h
end
def eqI (a b:Int):Bool:=match a with
 | .ofNat m=>(match b with | .ofNat n=>Nat.beq m n | .negSucc _=>false)
 | .negSucc m=>(match b with | .ofNat _=>false | .negSucc n=>Nat.beq m n)
theorem eqI_eq {a b:Int}(h:eqI a b=true):a=b:=by
 unfold eqI at h
 cases a<;>cases b<;>simp only[Bool.false_eq_true]at h<;>rw[Nat.eq_of_beq_eq_true h]
def eqBy:List UInt8→List UInt8→Bool
 | [],l=>(match l with | []=>true | _::_=>false)
 | a::l,m=>(match m with | []=>false | b::m=>(match Nat.beq a.toNat b.toNat with | true=>eqBy l m | false=>false))
theorem eqBy_eq:∀{l m:List UInt8},eqBy l m=true→l=m
 | [],[],_=>rfl
 | [],_::_,h=>by cases h
 | _::_,[],h=>by cases h
 | a::l,b::m,h=>by
  simp only[eqBy]at h
  split at h
  ·rename_i hb
   rw[UInt8.toNat_inj.1 (Nat.eq_of_beq_eq_true hb),eqBy_eq h]
  ·cases h
def eqAd (a b:Option Addr):Bool:=match a with
 | none=>(match b with | none=>true | some _=>false)
 | some ⟨x,o,none⟩=>(match b with | some ⟨y,p,none⟩=>(match Nat.beq x y with | true=>Nat.beq o p | false=>false) | _=>false)
 | _=>false
theorem eqAd_eq {a b:Option Addr}(h:eqAd a b=true):a=b:=by
 unfold eqAd at h
 split at h
 ·split at h
  ·rfl
  ·cases h
 ·split at h
  ·split at h
   ·rename_i hx
    rw[Nat.eq_of_beq_eq_true hx,Nat.eq_of_beq_eq_true h]
   ·cases h
  ·cases h
 ·cases h
def eqFn (a b:Fn):Bool:=match a with
 | .func f=>(match b with | .func g=>Nat.beq f g | _=>false)
 | .via t ⟨[]⟩ f p=>(match b with | .via u ⟨[]⟩ g q=>(match Nat.beq t u with | true=>(match Nat.beq f g with | true=>p == q | false=>false) | false=>false) | _=>false)
 | .yield l=>(match b with | .yield m=>Nat.beq l m | _=>false)
 | _=>false
theorem eqFn_eq {a b:Fn}(h:eqFn a b=true):a=b:=by
 unfold eqFn at h
 split at h
 ·split at h
  ·rw[Nat.eq_of_beq_eq_true h]
  ·cases h
 ·split at h
  ·split at h
   ·rename_i h1
    split at h
    ·rename_i h2
     rw[Nat.eq_of_beq_eq_true h1,Nat.eq_of_beq_eq_true h2,eq_of_beq h]
    ·cases h
   ·cases h
  ·cases h
 ·split at h
  ·rw[Nat.eq_of_beq_eq_true h]
  ·cases h
 ·cases h
def eqLs (f:Value→Value→Bool):List Value→List Value→Bool
 | [],l=>(match l with | []=>true | _::_=>false)
 | a::l,m=>(match m with | []=>false | b::m=>(match f a b with | true=>eqLs f l m | false=>false))
theorem eqLs_eq {f:Value→Value→Bool}(hf:∀a b,f a b=true→a=b):∀{l m:List Value},eqLs f l m=true→l=m
 | [],[],_=>rfl
 | [],_::_,h=>by cases h
 | _::_,[],h=>by cases h
 | a::l,b::m,h=>by
  simp only[eqLs]at h
  split at h
  ·rename_i hb
   rw[hf _ _ hb,eqLs_eq hf h]
  ·cases h
def eqVn:Nat→Value→Value→Bool
 | 0,_,_=>false
 | n+1,x,y=>match x with
  | .int k a=>(match y with | .int q b=>(match decide (k=q) with | true=>eqI a b | false=>false) | _=>false)
  | .bool a=>(match y with | .bool b=>a == b | _=>false)
  | .string a=>(match y with | .string b=>eqBy a.data.toList b.data.toList | _=>false)
  | .pointer a=>(match y with | .pointer b=>eqAd a b | _=>false)
  | .slice a l c=>(match y with | .slice b m d=>(match Nat.beq l m with | true=>(match Nat.beq c d with | true=>eqAd a b | false=>false) | false=>false) | _=>false)
  | .map (some a)=>(match y with | .map (some b)=>Nat.beq a b | _=>false)
  | .map none=>(match y with | .map none=>true | _=>false)
  | .nilFunc=>(match y with | .nilFunc=>true | _=>false)
  | .nilIface=>(match y with | .nilIface=>true | _=>false)
  | .iface t v=>(match y with | .iface u w=>(match Nat.beq t u with | true=>eqVn n v w | false=>false) | _=>false)
  | .agg a=>(match y with | .agg b=>eqLs (eqVn n) a.toList b.toList | _=>false)
  | .tuple a=>(match y with | .tuple b=>eqLs (eqVn n) a.toList b.toList | _=>false)
  | .func f a c=>(match y with | .func g b d=>(match eqFn f g with | true=>(match eqLs (eqVn n) c.toList d.toList with | true=>eqLs (eqVn n) a.toList b.toList | false=>false) | false=>false) | _=>false)
  | _=>false
theorem eqVn_eq:∀{n:Nat}{a b:Value},eqVn n a b=true→a=b
 | 0,_,_,h=>by cases h
 | n+1,x,y,h=>by
  have hl:∀{l m:Array Value},eqLs (eqVn n) l.toList m.toList=true→l=m:=fun h=>Array.ext' (eqLs_eq (fun _ _ h=>eqVn_eq h) h)
  unfold eqVn at h
  split at h
  ·split at h
   ·split at h
    ·rename_i h1
     rw[of_decide_eq_true h1,eqI_eq h]
    ·cases h
   ·cases h
  ·split at h
   ·rw[eq_of_beq h]
   ·cases h
  ·split at h
   ·rename_i a _ b
    have:=Array.ext' (eqBy_eq h)
    cases a;cases b
    simp only at this;rw[this]
   ·cases h
  ·split at h
   ·rw[eqAd_eq h]
   ·cases h
  ·split at h
   ·split at h
    ·rename_i h1
     split at h
     ·rename_i h2
      rw[Nat.eq_of_beq_eq_true h1,Nat.eq_of_beq_eq_true h2,eqAd_eq h]
     ·cases h
    ·cases h
   ·cases h
  ·split at h
   ·rw[Nat.eq_of_beq_eq_true h]
   ·cases h
  ·split at h
   ·rfl
   ·cases h
  ·split at h
   ·rfl
   ·cases h
  ·split at h
   ·rfl
   ·cases h
  ·split at h
   ·split at h
    ·rename_i h1
     rw[Nat.eq_of_beq_eq_true h1,eqVn_eq h]
    ·cases h
   ·cases h
  ·split at h
   ·rw[hl h]
   ·cases h
  ·split at h
   ·rw[hl h]
   ·cases h
  ·split at h
   ·split at h
    ·rename_i h1
     split at h
     ·rename_i h2
      rw[eqFn_eq h1,hl h2,hl h]
     ·cases h
    ·cases h
   ·cases h
  ·cases h
def arrEq (a b:Array Value):Bool:=eqLs (eqVn 6) a.toList b.toList||@decide (a=b) (Classical.propDecidable _)
theorem arrEq_eq {a b:Array Value}(h:arrEq a b=true):a=b:=by
 unfold arrEq at h;rw[Bool.or_eq_true]at h
 rcases h with h | h
 ·exact Array.ext' (eqLs_eq (fun _ _ h=>eqVn_eq h) h)
 ·simpa using h
theorem arrEq_self (a:Array Value):arrEq a a=true:=by simp [arrEq]
def veq0:Value→Value→Bool
 | .bool a,.bool b=>a == b
 | .int k a,.int q b=>decide (k=q)&&decide (a=b)
 | .string a,.string b=>decide (a=b)
 | .pointer none,.pointer none=>true
 | .pointer (some a),.pointer (some b)=>decide (a=b)
 | .slice none l c,.slice none l' c'=>decide (l=l')&&decide (c=c')
 | .slice (some a) l c,.slice (some b) l' c'=>decide (a=b)&&decide (l=l')&&decide (c=c')
 | .map a,.map b=>decide (a=b)
 | .nilIface,.nilIface=>true
 | .nilFunc,.nilFunc=>true
 | .func (.via 0 ⟨[]⟩ 0 true) x ⟨[.slice (some ⟨p,o,none⟩) l c]⟩,.func (.via 0 ⟨[]⟩ 0 true) y ⟨[.slice (some ⟨p',o',none⟩) l' c']⟩=>arrEq x y&&(decide (p=p')&&(decide (o=o')&&(decide (l=l')&&decide (c=c'))))
 | .func (.via 0 ⟨[]⟩ 0 false) x ⟨[.pointer (some ⟨p,o,none⟩)]⟩,.func (.via 0 ⟨[]⟩ 0 false) y ⟨[.pointer (some ⟨p',o',none⟩)]⟩=>arrEq x y&&(decide (p=p')&&decide (o=o'))
 | _,_=>false
theorem veq0_eq {a b:Value}(h:veq0 a b=true):a=b:=by
 unfold veq0 at h
 split at h<;>simp_all
 ·exact arrEq_eq h.1
 ·exact arrEq_eq h.1
def veqL:List Value→List Value→Bool
 | [],[]=>true
 | a::r,b::s=>veq0 a b&&veqL r s
 | _,_=>false
theorem veqL_eq:∀{a b:List Value},veqL a b=true→a=b
 | [],[],_=>rfl
 | [],_::_,h=>by simp [veqL]at h
 | _::_,[],h=>by simp [veqL]at h
 | a::r,b::s,h=>by
  simp only[veqL,Bool.and_eq_true]at h;rw[veq0_eq h.1,veqL_eq h.2]
def veq:Value→Value→Bool
 | .agg a,.agg b=>veqL a.toList b.toList
 | .func (.func f) a b,.func (.func g) c d=>decide (f=g)&&veqL a.toList c.toList&&veqL b.toList d.toList
 | a,b=>veq0 a b
theorem veq_eq {a b:Value}(h:veq a b=true):a=b:=by
 unfold veq at h
 split at h
 ·rename_i a b
  have:=veqL_eq h
  rw[show a=b from Array.ext' this]
 ·rename_i f a b g c d
  simp only[Bool.and_eq_true,decide_eq_true_eq]at h
  rw[h.1.1,show a=c from Array.ext' (veqL_eq h.1.2),show b=d from Array.ext' (veqL_eq h.2)]
 ·exact veq0_eq h
def same (x:Option Value)(v:Value):Bool:=match x with | some u=>veq u v | none=>false
theorem same_eq {x:Option Value}{v:Value}(h:same x v=true):x=some v:=by
 unfold same at h
 split at h
 ·rw[veq_eq h]
 ·cases h
def memOp (o:Op):Bool :=
 match o with
 | .load _ _ | .lookup _ _ _ _ | .convert _ _ _ | .slice _ _ _ _ _ | .call _=>true
 | _=>false
theorem aread_heap {P:Program} {ρ:Operand→Value}{o:Oper}(h:memOp o.op=false) (H H':List Ob):aread P ρ H o=aread P ρ H' o:=by
 unfold aread
 cases ho:o.op<;>first | rfl | (rw[ho]at h;cases h)
structure Rec where
 i:Nat
 o:Oper
 T:List Value
 v:Value
 hb:Hp
 ha:Hp
 loud:Bool
def dloud (P:Program)(self:Self) (ρ:Operand→Value)(h:Hp)(o:Oper):Option (Value×Hp) :=
 match aloud P ρ h o with
 | some (.val v h')=>some (v,h')
 | some (.enter f args)=>(match self (.call f args h) with | some (.ret v h')=>some (v,h') | _=>none)
 | some (.yield l args)=>(match self (.round l args h) with | some (.ret v h')=>some (v,h') | _=>none)
 | _=>none
def consR (r:Rec):Option (List Rec×List Value×Hp)→Option (List Rec×List Value×Hp)
 | some (l,T,h)=>some (r::l,T,h)
 | none=>none
def drun (P:Program)(self:Self)(os:Array Oper):List Nat→List Value→Hp→Option (List Rec×List Value×Hp)
 | [],T,h=>some ([],T,h)
 | i::r,T,h =>
  match os[i]? with
  | none=>none
  | some o =>
   if wantedT os T o then
    match aread P (evalT T) h.bl o with
    | some v=>forceV v fun v=>putK T o.dst v fun T'=>consR ⟨i,o,T,v,h,h,false⟩ (drun P self os r T' h)
    | none =>
     match dloud P self (evalT T) h o with
     | some (v,h')=>forceV v fun v=>putK T o.dst v fun T'=>forceH o.op h' fun h'=>consR ⟨i,o,T,v,h,h',true⟩ (drun P self os r T' h')
     | none=>none
   else putK T o.dst undef fun T'=>consR ⟨i,o,T,undef,h,h,false⟩ (drun P self os r T' h)
def depsOf (o:Oper):List Nat:=(o.after.toList.filter (Region.binds .any)).map (·.on)
def cloOf (clo:List Nat)(ds:List Nat):Nat:=ds.foldl (fun m j=>m|||(1 <<< j)|||clo.getD j 0) 0
def mkClo (os:Array Oper):List Nat→List Nat→List Nat
 | [],clo=>clo
 | i::r,clo=>mkClo os r (clo.set i (cloOf clo (((os[i]?).map depsOf).getD [])))
def cl (clo:List Nat)(i j:Nat):Bool:=(clo.getD i 0).testBit j
def orderOk (clo:List Nat):List Nat→Nat→Bool
 | [],_=>true
 | i::r,seen=>(clo.getD i 0 &&& seen == clo.getD i 0)&&!seen.testBit i&&orderOk clo r (seen|||1 <<< i)
def looks (os:Array Oper)(o:Oper):List Tmp:=o.looksAt os
def unord (clo:List Nat)(i j:Nat):Bool:=!cl clo i j&&!cl clo j i
def pairOk (P:Program)(os:Array Oper)(clo:List Nat)(r q:Rec):Bool :=
 r.i == q.i ||
 ((match r.o.dst with
   | some t=>(q.o.dst != some t)&&(!(looks os q.o).contains t||cl clo q.i r.i||cl clo r.i q.i)
   | none=>true) &&
  (!r.loud||(!q.loud||!unord clo r.i q.i)&&(q.loud||!memOp q.o.op||!unord clo r.i q.i||!wantedT os q.T q.o||(same (aread P (evalT q.T) r.hb.bl q.o) q.v&&same (aread P (evalT q.T) r.ha.bl q.o) q.v))))
def planOk (os:Array Oper)(order clo:List Nat):Bool :=
 (List.range os.size).all (fun i=>order.contains i)&&orderOk clo order 0 &&
 (List.range os.size).all (fun i=>clo.getD i 0 == cloOf clo (((os[i]?).map depsOf).getD []))&&order.all (fun i=>decide (i<os.size))
def dchk (P:Program)(os:Array Oper)(clo:List Nat)(recs:List Rec):Bool:=recs.all fun r=>recs.all fun q=>pairOk P os clo r q
def drawn (P:Program)(self:Self)(_:Option Nat)(_:Nat)(os:Array Oper)(s:St):Option Out :=
 if planOk os (Region.linearise .any os 0) (mkClo os (Region.linearise .any os 0) (List.replicate os.size 0)) then
  match drun P self os (Region.linearise .any os 0) s.t s.h with
  | some (recs,T,h)=>if dchk P os (mkClo os (Region.linearise .any os 0) (List.replicate os.size 0)) recs then some (.ex .normal { s with t:=T,h:=h }) else none
  | none=>none
 else none
section
variable {P:Program} {ρ ρ':Operand→Value}
theorem aread_congr {H:List Ob}{o:Oper}(h:∀x∈o.op.operands,ρ x=ρ' x):aread P ρ H o=aread P ρ' H o:=by
 have he:(∀cs b,o.op≠.select cs b)→execOp ρ o=execOp ρ' o:=fun hs=>execOp_congr o hs h
 have pairs:∀ps:Array (Nat×Operand),(∀x∈ps.map (·.2),ρ x=ρ' x)→(ps.toList.map fun (i,x)=>(i,ρ x))=(ps.toList.map fun (i,x)=>(i,ρ' x)):=fun ps hp =>
  List.map_congr_left fun p hm=>by
   obtain ⟨i,x⟩:=p
   simp only[hp x (Array.mem_map.2 ⟨(i,x),by simpa using hm,rfl⟩)]
 have alls:∀xs:Array Operand,(∀x∈xs,ρ x=ρ' x)→(xs.toList.all fun x=>gr (ρ x))=(xs.toList.all fun x=>gr (ρ' x)):=fun xs hx=>by
  rw[Bool.eq_iff_iff,List.all_eq_true,List.all_eq_true]
  exact ⟨fun hh x hm=>by rw[← hx x (by simpa using hm)];exact hh x hm,fun hh x hm=>by rw[hx x (by simpa using hm)];exact hh x hm⟩
 have pall:∀ps:Array (Nat×Operand),(∀x∈ps.map (·.2),ρ x=ρ' x)→(ps.toList.all fun x=>okO x.2&&notT (ρ x.2))=(ps.toList.all fun x=>okO x.2&&notT (ρ' x.2)):=fun ps hp=>by
  rw[Bool.eq_iff_iff,List.all_eq_true,List.all_eq_true]
  have hq:∀x∈ps.toList,ρ x.2=ρ' x.2:=fun x hm=>hp x.2 (Array.mem_map.2 ⟨x,by simpa using hm,rfl⟩)
  exact ⟨fun hh x hm=>by rw[← hq x hm];exact hh x hm,fun hh x hm=>by rw[hq x hm];exact hh x hm⟩
 obtain ⟨dst,op,type,pos,after,guard⟩:=o
 cases op<;>simp only[Op.operands]at h<;>simp only[aread]
 case build t ps=>rw[pairs ps fun x hx=>h x (by simpa using hx),pall ps fun x hx=>h x (by simpa using hx)]
 case makeFunc fn fi ca =>
  rw[Array.map_congr_left (xs:=fi) fun x hx=>h x (by simp [hx]),Array.map_congr_left (xs:=ca) fun x hx=>h x (by simp [hx])]
 case call c =>
  rw[he (by simp)]
  have ha:∀x∈c.args,ρ x=ρ' x:=fun x hx=>h x (by simp [Call.operands,hx])
  obtain ⟨callee,args,argTypes⟩:=c
  cases callee with
  | value f=>rfl
  | invoke r m=>rfl
  | builtin b =>
   dsimp only
   rw[alls args ha]
   split
   ·split
    ·rfl
    ·split
     ·rename_i x t hx _ _
      have:x∈args:=by rw[← Array.mem_toList_iff,hx];simp
      rw[ha x this]
     ·rfl
   ·rfl
 case slice t x lo hi mx=>rw[he (by simp)];cases lo<;>cases hi<;>cases mx<;>simp_all
 all_goals (first | rfl | (rw[he (by simp)];simp_all;done) | (simp_all;done))
theorem aloud_congr {h0:Hp}{o:Oper}(h:∀x∈o.op.operands,ρ x=ρ' x):aloud P ρ h0 o=aloud P ρ' h0 o:=by
 have pairs:∀ps:Array (Nat×Operand),(∀x∈ps.map (·.2),ρ x=ρ' x)→(ps.toList.map fun (i,x)=>(i,ρ x))=(ps.toList.map fun (i,x)=>(i,ρ' x)):=fun ps hp =>
  List.map_congr_left fun p hm=>by
   obtain ⟨i,x⟩:=p
   simp only[hp x (Array.mem_map.2 ⟨(i,x),by simpa using hm,rfl⟩)]
 have pall:∀ps:Array (Nat×Operand),(∀x∈ps.map (·.2),ρ x=ρ' x)→(ps.toList.all fun x=>okO x.2&&notT (ρ x.2))=(ps.toList.all fun x=>okO x.2&&notT (ρ' x.2)):=fun ps hp=>by
  rw[Bool.eq_iff_iff,List.all_eq_true,List.all_eq_true]
  have hq:∀x∈ps.toList,ρ x.2=ρ' x.2:=fun x hm=>hp x.2 (Array.mem_map.2 ⟨x,by simpa using hm,rfl⟩)
  exact ⟨fun hh x hm=>by rw[← hq x hm];exact hh x hm,fun hh x hm=>by rw[hq x hm];exact hh x hm⟩
 obtain ⟨dst,op,type,pos,after,guard⟩:=o
 cases op<;>simp only[Op.operands]at h<;>simp only[aloud]
 case buildSlice t n ps=>rw[pairs ps fun x hx=>h x (by simpa using hx),pall ps fun x hx=>h x (by simpa using hx)]
 case call c =>
  have ha:∀x∈c.args,ρ x=ρ' x:=fun x hx=>h x (by simp [Call.operands,hx])
  have hm:c.args.map ρ=c.args.map ρ':=Array.map_congr_left fun x hx=>ha x hx
  obtain ⟨callee,args,argTypes⟩:=c
  cases callee with
  | value f =>
   have hf:ρ f=ρ' f:=h f (by simp [Call.operands])
   simp only at hm ⊢;rw[hf,hm]
  | invoke r m=>rfl
  | builtin b =>
   cases b<;>try rfl
   case clear =>
    simp only at ha ⊢
    split
    ·rename_i x t hx ht
     have h1:x∈args:=by rw[← Array.mem_toList_iff,hx];simp
     rw[ha x h1]
    ·rfl
   all_goals
    simp only at ha ⊢
    split
    ·rename_i s x ts tx hx ht
     have h1:s∈args:=by rw[← Array.mem_toList_iff,hx];simp
     have h2:x∈args:=by rw[← Array.mem_toList_iff,hx];simp
     rw[ha s h1,ha x h2]
    ·rfl
 case defer c =>
  have ha:∀x∈c.args,ρ x=ρ' x:=fun x hx=>h x (by simp [Call.operands,hx])
  have hm:c.args.map ρ=c.args.map ρ':=Array.map_congr_left fun x hx=>ha x hx
  obtain ⟨callee,args,argTypes⟩:=c
  cases callee with
  | value f =>
   have hf:ρ f=ρ' f:=h f (by simp [Call.operands])
   simp only at hm ⊢;rw[hf,hm]
  | invoke r m=>rfl
  | builtin b=>rfl
 all_goals (first | rfl | (simp_all;done))
theorem dloud_congr {self:Self}{h0:Hp}{o:Oper}(h:∀x∈o.op.operands,ρ x=ρ' x):dloud P self ρ h0 o=dloud P self ρ' h0 o:=by
 unfold dloud;rw[aloud_congr h]
end
theorem lset_set:∀(l:List Value) (n:Nat) (v:Value),lset l n v=l.set n v
 | [],_,_=>rfl
 | _::_,0,_=>rfl
 | x::r,n+1,v=>by simp [lset,lset_set r n v]
theorem lget_lset_ne {l:List Value}{n m:Nat}{v:Value}(h:n≠m):lget (lset l n v) m=lget l m:=by
 rw[lget_eq,lget_eq,lset_eq,Array.getD_eq_getD_getElem?,Array.getD_eq_getD_getElem?,Array.getElem?_setIfInBounds_ne h]
theorem lset_length (l:List Value)(n:Nat)(v:Value):(lset l n v).length=l.length:=by rw[lset_set];simp
theorem lget_lset_congr {l l':List Value}(hl:l.length=l'.length) {n:Nat}{v:Value}:lget (lset l n v) n=lget (lset l' n v) n:=by
 rw[lget_eq,lget_eq,lset_eq,lset_eq,Array.getD_eq_getD_getElem?,Array.getD_eq_getD_getElem?,Array.getElem?_setIfInBounds,Array.getElem?_setIfInBounds]
 simp [hl]
theorem put_length (t:List Value)(dst:Option Tmp)(v:Value):(put t dst v).length=t.length:=by
 cases dst with
 | none=>rfl
 | some d=>exact lset_length _ _ _
theorem put_comm (t:List Value) {x y:Option Tmp}(v u:Value) (h:∀d,x=some d→y≠some d):put (put t x v) y u=put (put t y u) x v:=by
 cases x with
 | none=>rfl
 | some d =>
  cases y with
  | none=>rfl
  | some e =>
   have hne:d≠e:=fun he=>h d rfl (he ▸ rfl)
   simp only[put,lset_set];exact List.set_comm _ _ hne
def TD (D:Nat→Bool)(l:List Rec)(T:List Value):List Value:=l.foldl (fun T r=>if D r.i then put T r.o.dst r.v else T) T
def HD (D:Nat→Bool)(l:List Rec)(h:Hp):Hp:=l.foldl (fun h r=>if D r.i&&r.loud then r.ha else h) h
theorem TD_length (D:Nat→Bool):∀(l:List Rec) (T:List Value),(TD D l T).length=T.length
 | [],_=>rfl
 | r::l,T=>by
  show (TD D l (if D r.i then put T r.o.dst r.v else T)).length=_
  rw[TD_length D l]
  split
  ·exact put_length _ _ _
  ·rfl
theorem TD_cons (D:Nat→Bool)(r:Rec)(l:List Rec)(T:List Value):TD D (r::l) T=TD D l (if D r.i then put T r.o.dst r.v else T):=rfl
theorem HD_cons (D:Nat→Bool)(r:Rec)(l:List Rec)(h:Hp):HD D (r::l) h=HD D l (if D r.i&&r.loud then r.ha else h):=rfl
theorem TD_append (D:Nat→Bool)(l m:List Rec)(T:List Value):TD D (l++m) T=TD D m (TD D l T):=List.foldl_append
theorem HD_append (D:Nat→Bool)(l m:List Rec)(h:Hp):HD D (l++m) h=HD D m (HD D l h):=List.foldl_append
theorem TD_congr {D D':Nat→Bool}:∀{l:List Rec}(T:List Value),(∀r∈l,D r.i=D' r.i)→TD D l T=TD D' l T
 | [],_,_=>rfl
 | r::l,T,h=>by
  rw[TD_cons,TD_cons,h r (by simp)]
  exact TD_congr _ fun r hr=>h r (by simp [hr])
theorem HD_congr {D D':Nat→Bool}:∀{l:List Rec}(h0:Hp),(∀r∈l,r.loud=true→D r.i=D' r.i)→HD D l h0=HD D' l h0
 | [],_,_=>rfl
 | r::l,h0,h=>by
  have e:(D r.i&&r.loud)=(D' r.i&&r.loud):=by
   cases hl:r.loud with
   | false=>simp
   | true=>rw[h r (by simp) hl]
  rw[HD_cons,HD_cons,e]
  exact HD_congr _ fun r hr=>h r (by simp [hr])
theorem TD_get {D D':Nat→Bool}{t:Tmp}:∀{l:List Rec} {T T':List Value},T.length=T'.length→lget T t=lget T' t→(∀r∈l,r.o.dst=some t→D r.i=D' r.i)→lget (TD D l T) t=lget (TD D' l T') t
 | [],_,_,_,h,_=>h
 | r::l,T,T',hl,h,hd=>by
  rw[TD_cons,TD_cons]
  refine TD_get ?_ ?_ fun r hr=>hd r (by simp [hr])
  ·split<;>split<;>simp [put_length,hl]
  ·by_cases he:r.o.dst=some t
   ·rw[hd r (by simp) he,he]
    split
    ·exact lget_lset_congr hl
    ·exact h
   ·have hk:∀X:List Value,lget (put X r.o.dst r.v) t=lget X t:=fun X=>by
     cases hx:r.o.dst with
     | none=>rfl
     | some d=>exact lget_lset_ne fun e=>he (by rw[hx,e])
    split<;>split<;>simp [hk,h]
theorem TD_put {D:Nat→Bool}{dst:Option Tmp}{v:Value}:∀{l:List Rec}{T:List Value},(∀r∈l,∀t,dst=some t→r.o.dst≠some t)→TD D l (put T dst v)=put (TD D l T) dst v
 | [],_,_=>rfl
 | r::l,T,h=>by
  rw[TD_cons,TD_cons,← TD_put fun r hr=>h r (by simp [hr])]
  split
  ·rw[put_comm _ _ _ (h r (by simp))]
  ·rfl
theorem bit_sub {a b k:Nat}(h:(a &&& b == a)=true) (hk:a.testBit k=true):b.testBit k=true:=by
 have e:a &&& b=a:=by simpa using h
 have:=congrArg (fun x=>x.testBit k) e
 simp only[Nat.testBit_and,hk,Bool.true_and]at this;exact this
theorem bit_add (m i k:Nat):(m|||1 <<< i).testBit k=(m.testBit k||decide (i=k)):=by
 rw[Nat.testBit_or,Nat.one_shiftLeft,Nat.testBit_two_pow]
theorem orderOk_spec {clo:List Nat}:∀{l:List Nat}{seen:Nat},orderOk clo l seen=true →
  (∀i∈l,seen.testBit i=false)∧l.Pairwise (fun a b=>a≠b∧cl clo a b=false) ∧
  ∀(pre:List Nat) (a:Nat) (post:List Nat),l=pre++a::post→∀k,cl clo a k=true→seen.testBit k=true∨k∈pre
 | [],_,_=>⟨by simp,.nil,by intro pre a post h;simp at h⟩
 | i::r,seen,h=>by
  simp only[orderOk,Bool.and_eq_true,Bool.not_eq_true']at h;obtain ⟨⟨h1,h2⟩,h3⟩:=h;obtain ⟨a1,a2,a3⟩:=orderOk_spec h3
  have hb:∀b∈r,seen.testBit b=false∧i≠b:=fun b hb=>by
   have:=a1 b hb;rw[bit_add]at this
   simpa using this
  refine ⟨?_,?_,?_⟩
  ·intro j hj
   rcases List.mem_cons.1 hj with rfl | hj
   ·exact h2
   ·exact (hb j hj).1
  ·refine .cons (fun b hbm=>⟨(hb b hbm).2,?_⟩) a2
   cases hc:cl clo i b with
   | false=>rfl
   | true =>
    have:=bit_sub h1 hc;rw[(hb b hbm).1]at this;cases this
  ·intro pre a post he k hk
   cases pre with
   | nil =>
    simp only[List.nil_append,List.cons.injEq]at he;obtain ⟨rfl,rfl⟩:=he;exact .inl (bit_sub h1 hk)
   | cons p pre =>
    simp only[List.cons_append,List.cons.injEq]at he;obtain ⟨rfl,rfl⟩:=he
    rcases a3 pre a post rfl k hk with h | h
    ·rw[bit_add]at h
     simp only[Bool.or_eq_true,decide_eq_true_eq]at h
     rcases h with h | h
     ·exact .inl h
     ·exact .inr (by simp [h])
    ·exact .inr (by simp [h])
theorem fold_bit {clo:List Nat}:∀(ds:List Nat) (m k:Nat),(ds.foldl (fun m j=>m|||(1 <<< j)|||clo.getD j 0) m).testBit k=(m.testBit k||ds.any fun d=>decide (d=k)||cl clo d k)
 | [],m,k=>by simp
 | d::ds,m,k=>by
  rw[List.foldl_cons,fold_bit ds,Nat.testBit_or,bit_add,List.any_cons];simp only[cl,Bool.or_assoc]
theorem cloOf_bit {clo ds:List Nat}{k:Nat}:(cloOf clo ds).testBit k=true↔∃d∈ds,d=k∨cl clo d k=true:=by
 unfold cloOf;rw[fold_bit]
 simp
def RecOk (P:Program)(self:Self)(os:Array Oper)(r:Rec):Prop :=
 (wantedT os r.T r.o=false∧r.v=undef∧r.ha=r.hb∧r.loud=false) ∨
 (wantedT os r.T r.o=true∧aread P (evalT r.T) r.hb.bl r.o=some r.v∧r.ha=r.hb∧r.loud=false) ∨
 (wantedT os r.T r.o=true∧aread P (evalT r.T) r.hb.bl r.o=none∧dloud P self (evalT r.T) r.hb r.o=some (r.v,r.ha)∧r.loud=true)
theorem RecOk.quiet {P:Program}{self:Self}{os:Array Oper}{r:Rec}(h:RecOk P self os r) (hl:r.loud=false):r.ha=r.hb:=by
 rcases h with ⟨_,_,h,_⟩ | ⟨_,_,h,_⟩ | ⟨_,_,_,h⟩
 ·exact h
 ·exact h
 ·rw[hl]at h;cases h
inductive Tr (P:Program) (self:Self) (os:Array Oper):List Rec→List Value→Hp→List Value→Hp→Prop
 | nil (T:List Value) (h:Hp):Tr P self os [] T h T h
 | cons {r:Rec} {l:List Rec} {T':List Value} {h':Hp} (ho:os[r.i]?=some r.o) (hr:RecOk P self os r) (ht:Tr P self os l (put r.T r.o.dst r.v) r.ha T' h'):Tr P self os (r::l) r.T r.hb T' h'
section
variable {P:Program}{self:Self}{os:Array Oper}
theorem consR_some {r:Rec}{y:Option (List Rec×List Value×Hp)}{recs:List Rec}{T:List Value}{h:Hp}(e:consR r y=some (recs,T,h)):∃l,y=some (l,T,h)∧recs=r::l:=by
 cases y with
 | none=>cases e
 | some y =>
  obtain ⟨l,T1,h1⟩:=y;simp only[consR,Option.some.injEq,Prod.mk.injEq]at e;obtain ⟨rfl,rfl,rfl⟩:=e;exact ⟨l,rfl,rfl⟩
theorem drun_tr:∀(l:List Nat) (T:List Value) (h:Hp) (recs:List Rec) (T':List Value) (h':Hp),drun P self os l T h=some (recs,T',h')→Tr P self os recs T h T' h'∧recs.map (·.i)=l
 | [],T,h,recs,T',h',e=>by
  simp only[drun,Option.some.injEq,Prod.mk.injEq]at e;obtain ⟨rfl,rfl,rfl⟩:=e;exact ⟨.nil T h,rfl⟩
 | i::r,T,h,recs,T',h',e=>by
  simp only[drun,putK_eq,forceH_eq,forceV_eq]at e
  split at e
  ·cases e
  rename_i o ho
  split at e
  ·rename_i hw
   split at e
   ·rename_i v hv
    obtain ⟨l,e2,rfl⟩:=consR_some e;obtain ⟨h1,h2⟩:=drun_tr r _ _ _ _ _ e2
    exact ⟨.cons (r:=⟨i,o,T,v,h,h,false⟩) ho (.inr (.inl ⟨hw,hv,rfl,rfl⟩)) h1,by simp [h2]⟩
   ·rename_i hv
    split at e
    ·rename_i v h1 hv1
     obtain ⟨l,e2,rfl⟩:=consR_some e;obtain ⟨h1',h2⟩:=drun_tr r _ _ _ _ _ e2
     exact ⟨.cons (r:=⟨i,o,T,v,h,h1,true⟩) ho (.inr (.inr ⟨hw,hv,hv1,rfl⟩)) h1',by simp [h2]⟩
    ·cases e
  ·rename_i hw
   obtain ⟨l,e2,rfl⟩:=consR_some e;obtain ⟨h1,h2⟩:=drun_tr r _ _ _ _ _ e2
   exact ⟨.cons (r:=⟨i,o,T,undef,h,h,false⟩) ho (.inl ⟨by simpa using hw,rfl,rfl,rfl⟩) h1,by simp [h2]⟩
theorem dloud_nx {ρ:Operand→Value} {h h':Hp}{o:Oper}{v:Value}(hd:dloud P self ρ h o=some (v,h')) :
  aloud P ρ h o=some (.val v h')∨(∃f args,aloud P ρ h o=some (.enter f args)∧self (.call f args h)=some (.ret v h')) ∨
  ∃l args,aloud P ρ h o=some (.yield l args)∧self (.round l args h)=some (.ret v h'):=by
 unfold dloud at hd
 split at hd
 ·rename_i v1 h1 e
  simp only[Option.some.injEq,Prod.mk.injEq]at hd;obtain ⟨rfl,rfl⟩:=hd;exact .inl e
 ·rename_i f args e
  split at hd
  ·rename_i v1 h1 e1
   simp only[Option.some.injEq,Prod.mk.injEq]at hd;obtain ⟨rfl,rfl⟩:=hd;exact .inr (.inl ⟨f,args,e,e1⟩)
  ·cases hd
 ·rename_i l args e
  split at hd
  ·rename_i v1 h1 e1
   simp only[Option.some.injEq,Prod.mk.injEq]at hd;obtain ⟨rfl,rfl⟩:=hd;exact .inr (.inr ⟨l,args,e,e1⟩)
  ·cases hd
 ·cases hd
theorem RecOk.pres (hs:SelfOk P self) {r:Rec}(h:RecOk P self os r) (hb:r.hb.base≤r.hb.bl.length):Pres r.hb r.ha:=by
 rcases h with ⟨_,_,h,_⟩ | ⟨_,_,h,_⟩ | ⟨_,hn,h,_⟩
 ·rw[h];exact Pres.refl _
 ·rw[h];exact Pres.refl _
 ·rcases dloud_nx h with h | ⟨f,args,_,h⟩ | ⟨l,args,_,h⟩
  ·exact runOps_sound.aop_pres hb (by unfold aop;rw[hn];exact h)
  ·exact (hs _ _ h hb).1
  ·exact (hs _ _ h hb).1
theorem Tr.pres (hs:SelfOk P self) {l:List Rec} {T T':List Value} {h h':Hp}(ht:Tr P self os l T h T' h'):h.base≤h.bl.length→Pres h h'∧∀r∈l,r.hb.base≤r.hb.bl.length:=by
 induction ht with
 | nil=>intro _;exact ⟨Pres.refl _,by simp⟩
 | cons ho hr ht ih =>
  intro hb;have hp:=hr.pres hs hb
  obtain ⟨h1,h2⟩:=ih (by rw[hp.base];exact Nat.le_trans hb hp.len)
  refine ⟨hp.trans h1,?_⟩
  intro q hq
  rcases List.mem_cons.1 hq with rfl | hq
  ·exact hb
  ·exact h2 q hq
theorem Tr.recs {l:List Rec} {T T':List Value} {h h':Hp}(ht:Tr P self os l T h T' h'):∀r∈l,os[r.i]?=some r.o∧RecOk P self os r:=by
 induction ht with
 | nil=>simp
 | cons ho hr ht ih =>
  intro q hq
  rcases List.mem_cons.1 hq with rfl | hq
  ·exact ⟨ho,hr⟩
  ·exact ih q hq
theorem Tr.split {pre:List Rec}:∀{q:Rec}{post:List Rec} {T T':List Value} {h h':Hp},Tr P self os (pre++q::post) T h T' h'→q.T=TD (fun _=>true) pre T∧q.hb=HD (fun _=>true) pre h:=by
 induction pre with
 | nil=>intro q post T T' h h' ht;cases ht;exact ⟨rfl,rfl⟩
 | cons r pre ih =>
  intro q post T T' h h' ht
  cases ht with
  | cons ho hr ht =>
   obtain ⟨h1,h2⟩:=ih ht
   refine ⟨h1,?_⟩
   rw[h2,HD_cons]
   cases hl:r.loud with
   | true=>simp
   | false=>simp [hr.quiet hl]
theorem Tr.last {l:List Rec} {T T':List Value} {h h':Hp}(ht:Tr P self os l T h T' h'):T'=TD (fun _=>true) l T∧h'=HD (fun _=>true) l h:=by
 induction ht with
 | nil=>exact ⟨rfl,rfl⟩
 | @cons r l T' h' ho hr ht ih =>
  refine ⟨ih.1,?_⟩
  rw[ih.2,HD_cons]
  cases hl:r.loud with
  | true=>simp
  | false=>simp [hr.quiet hl]
theorem TD_none {D:Nat→Bool}:∀{l:List Rec}(T:List Value),(∀r∈l,D r.i=false)→TD D l T=T
 | [],_,_=>rfl
 | r::l,T,h=>by
  rw[TD_cons,h r (by simp)]
  exact TD_none _ fun r hr=>h r (by simp [hr])
theorem HD_none {D:Nat→Bool}:∀{l:List Rec}(h0:Hp),(∀r∈l,r.loud=true→D r.i=false)→HD D l h0=h0
 | [],_,_=>rfl
 | r::l,h0,h=>by
  rw[HD_cons]
  have e:(D r.i&&r.loud)=false:=by
   cases hl:r.loud with
   | false=>simp
   | true=>rw[h r (by simp) hl];rfl
  rw[e]
  exact HD_none _ fun r hr=>h r (by simp [hr])
theorem HD_last {D:Nat→Bool}:∀(l:List Rec) (h:Hp),HD D l h=h∨∃r∈l,r.loud=true∧D r.i=true∧HD D l h=r.ha
 | [],_=>.inl rfl
 | r::l,h=>by
  rw[HD_cons]
  rcases HD_last l (if D r.i&&r.loud then r.ha else h) with e | ⟨q,h1,h2,h3,h4⟩
  ·rw[e]
   by_cases hc:(D r.i&&r.loud)=true
   ·rw[if_pos hc]
    simp only[Bool.and_eq_true]at hc
    exact .inr ⟨r,by simp,hc.2,hc.1,rfl⟩
   ·rw[if_neg hc];exact .inl rfl
  ·exact .inr ⟨q,by simp [h1],h2,h3,h4⟩
theorem HD_two {D D':Nat→Bool}{l:List Rec} {T T':List Value} {h h':Hp}(ht:Tr P self os l T h T' h') :
  l.Pairwise (fun a b=>a.loud=true→b.loud=true→(D b.i=true→D a.i=true)∧(D' b.i=true→D' a.i=true)) →
  HD D l h=HD D' l h∨∃r∈l,r.loud=true∧D r.i≠D' r.i∧(HD D l h=r.ha∨HD D l h=r.hb):=by
 induction ht with
 | nil=>intro _;exact .inl rfl
 | @cons r l T' h' ho hr ht ih =>
  intro hp;rw[List.pairwise_cons]at hp;obtain ⟨h1,h2⟩:=hp;rw[HD_cons,HD_cons]
  have lift:∀X Y:Hp,(X=Y∨∃q∈l,q.loud=true∧D q.i≠D' q.i∧(X=q.ha∨X=q.hb))→(X=Y∨∃q∈r::l,q.loud=true∧D q.i≠D' q.i∧(X=q.ha∨X=q.hb)):=fun X Y hh=>by
   rcases hh with hh | ⟨q,q1,q2⟩
   ·exact .inl hh
   ·exact .inr ⟨q,by simp [q1],q2⟩
  cases hl:r.loud with
  | false =>
   rw[hr.quiet hl]at ih
   simpa [hl] using lift _ _ (ih h2)
  | true =>
   have n1:D r.i=false→∀q∈l,q.loud=true→D q.i=false:=fun hd q hq ql=>by
    cases hc:D q.i with
    | false=>rfl
    | true=>rw[((h1 q hq hl ql).1 hc)]at hd;cases hd
   have n2:D' r.i=false→∀q∈l,q.loud=true→D' q.i=false:=fun hd q hq ql=>by
    cases hc:D' q.i with
    | false=>rfl
    | true=>rw[((h1 q hq hl ql).2 hc)]at hd;cases hd
   cases hd:D r.i with
   | false =>
    cases hd':D' r.i with
    | false =>
     left
     simp only[Bool.false_and,Bool.false_eq_true,if_false];rw[HD_none _ (n1 hd),HD_none _ (n2 hd')]
    | true =>
     right
     refine ⟨r,by simp,hl,by rw[hd,hd'];simp,.inr ?_⟩
     simp only[Bool.false_and,Bool.false_eq_true,if_false];rw[HD_none _ (n1 hd)]
   | true =>
    simp only[Bool.and_self,if_true]
    cases hd':D' r.i with
    | true =>
     simp only[Bool.and_self,if_true];exact lift _ _ (ih h2)
    | false =>
     right
     rcases HD_last (D:=D) l r.ha with e | ⟨q,q1,q2,q3,q4⟩
     ·exact ⟨r,by simp,hl,by rw[hd,hd'];simp,.inl e⟩
     ·exact ⟨q,by simp [q1],q2,by rw[q3,n2 hd' q q1 q2];simp,.inl q4⟩
end
end
end Go.Gi
