/- Part 3 of the texts below the claim. Conditions: none. -/
import Derived.Test.YtdidolncblhngaaMg2
import Derived.OrdersIn
set_option linter.unusedVariables false
set_option linter.unusedSimpArgs false
namespace Go.Gi
open Go.RowKit
noncomputable section
section
variable {P:Program}{self:Self}
def DQ (K:Nat→Prop)(w0:World) (φ:Phi)(e:Ex) (s':St) (m':Mo)(c0:Frame)(cs:List Frame)(x:Exit)(a:Act) (cs':List Frame) (w':World):Prop :=
  ∃φ' u',le φ φ'∧ExR φ' e x∧VRs φ' s'.t.toArray a.tmps∧DRs φ' s'.d a.defers∧Inv K w0 φ' s'.h.bl w'∧MoR φ' m' u'∧cs'={ c0 with mode:=u' }::cs
theorem DQ.mono {K:Nat→Prop}{w0:World} {φ ψ:Phi}(hle:le φ ψ) {e:Ex} {s':St} {m':Mo}{c0:Frame}{cs:List Frame}{x:Exit}{a:Act} {cs':List Frame} {w':World}(h:DQ K w0 ψ e s' m' c0 cs x a cs' w'):DQ K w0 φ e s' m' c0 cs x a cs' w':=by
  obtain ⟨φ',u',h1,h2⟩:=h
  exact ⟨φ',u',le_trans hle h1,h2⟩
theorem wpSIn_mono {F:Fence}{n:Nat}{c:Code} {Q Q':Exit→Act→List Frame→World→Prop}{a:Act}{cs:List Frame}{w:World}(hq:∀e a cs w,Q e a cs w→Q' e a cs w) (h:c.wpSIn F n P Q a cs w):c.wpSIn F n P Q' a cs w :=
  fun b k hb hr hF hroom=>let ⟨e,a',cs',w',l,q,r⟩:=h b k hb hr hF hroom;⟨e,a',cs',w',l,hq _ _ _ _ q,r⟩
theorem runDOps_sound (hN:NoNG P) {os:Array Oper}:∀(l:List Nat) (s:St) (m:Mo) (e:Ex) (s':St) (m':Mo),runDOps P os l s m=some (e,s',m')→s.h.base≤s.h.bl.length →
    Pres s.h s'.h∧∀(K:Nat→Prop) (w0:World) (φ:Phi) (w:World) (a:Act) (c0:Frame) (cs:List Frame) (u:FrameMode) (n:Nat) (Q:Exit→Act→List Frame→World→Prop),
      Inv K w0 φ s.h.bl w→VRs φ s.t.toArray a.tmps→DRs φ s.d a.defers→MoR φ m u→(∀x a cs' w',DQ K w0 φ e s' m' c0 cs x a cs' w'→Q x a cs' w')→wpOpsSIn Fence.wide n P os Q l a ({ c0 with mode:=u }::cs) w
  | [],s,m,e,s',m',h,_=>by
    simp only [runDOps,Option.some.injEq,Prod.mk.injEq]at h
    obtain ⟨rfl,rfl,rfl⟩:=h
    refine ⟨Pres.refl _,?_⟩
    intro K w0 φ w a c0 cs u n Q hI ht hd hm hQ
    exact hQ _ _ _ _ ⟨φ,u,le_refl φ,.normal,ht,hd,hI,hm,rfl⟩
  | i::r,s,m,e,s',m',h,hb=>by
    simp only [runDOps,putK_eq,forceH_eq]at h
    cases ho:os[i]? with
    | none =>
      rw [ho]at h
      obtain ⟨hp,hh⟩:=runDOps_sound hN r s m e s' m' h hb
      refine ⟨hp,?_⟩
      intro K w0 φ w a c0 cs u n Q hI ht hd hm hQ
      simp only [wpOpsSIn,ho]
      exact hh K w0 φ w a c0 cs u n Q hI ht hd hm hQ
    | some o =>
      rw [ho]at h
      simp only at h
      by_cases hw:wantedT os s.t o=true
      · rw [if_pos hw]at h
        split at h
        · rename_i v h' ha
          have hpr:=runOps_sound.aop_pres hb ha
          have hbase:h'.base≤h'.bl.length:=by rw [hpr.base];exact Nat.le_trans hb hpr.len
          obtain ⟨hp,hh⟩:=runDOps_sound hN r _ m e s' m' h hbase
          refine ⟨hpr.trans hp,?_⟩
          intro K w0 φ w a c0 cs u n Q hI ht hd hm hQ
          obtain ⟨_,φ',v',w',hr,hle,hv,hI'⟩:=aop_sound hN hb hI (evs_t ht) ha
          simp only [wpOpsSIn,ho]
          rw [if_pos (by rw [wanted_eq ht];exact hw)]
          refine ⟨fun f _=>trivial,?_⟩
          have hrest:wpOpsSIn Fence.wide n P os Q r (a.put o.dst v') ({ c0 with mode:=u }::cs) w':=hh K w0 φ' w' _ c0 cs u n Q hI' (by exact vrs_put (ht.mono hle) hv _) (by rw [put_defers];exact hd.mono hle) (hm.mono hle) (fun x a cs' w'' hc=>hQ x a cs' w'' (hc.mono hle))
          rcases hr with hr | ⟨hr,rfl⟩
          · rw [hr];exact hrest
          · rw [hr];exact hrest
        · rename_i ha
          split at h
          · rename_i v
            obtain ⟨hp,hh⟩:=runDOps_sound hN r _ _ e s' m' h hb
            refine ⟨hp,?_⟩
            intro K w0 φ w a c0 cs u n Q hI ht hd hm hQ
            have hr:(execOp a.eval o).run P w=.ok .recover w:=aop_sound hN hb hI (evs_t ht) ha
            cases hm with
            | @panicking _ v' _ hv =>
              simp only [wpOpsSIn,ho]
              rw [if_pos (by rw [wanted_eq ht];exact hw)]
              refine ⟨fun f _=>trivial,?_⟩
              rw [hr]
              exact hh K w0 φ w _ c0 cs (.panicking [{ v:=v',recovered:=true }]) n Q hI (by exact vrs_put ht hv _) (by rw [put_defers];exact hd) (.panicking true hv) hQ
          · rename_i hne
            obtain ⟨hp,hh⟩:=runDOps_sound hN r _ _ e s' m' h hb
            refine ⟨hp,?_⟩
            intro K w0 φ w a c0 cs u n Q hI ht hd hm hQ
            have hr:(execOp a.eval o).run P w=.ok .recover w:=aop_sound hN hb hI (evs_t ht) ha
            have hrec:recoverD ({ c0 with mode:=u }::cs)=none:=by
              cases hm with
              | returning=>rfl
              | @panicking v _ done hv =>
                cases done with
                | false=>exact absurd rfl (hne v)
                | true=>rfl
            simp only [wpOpsSIn,ho]
            rw [if_pos (by rw [wanted_eq ht];exact hw)]
            refine ⟨fun f _=>trivial,?_⟩
            rw [hr]
            simp only [hrec]
            exact hh K w0 φ w _ c0 cs u n Q hI (by exact vrs_put ht .nilIface _) (by rw [put_defers];exact hd) hm hQ
        · cases h
      · rw [if_neg hw]at h
        obtain ⟨hp,hh⟩:=runDOps_sound hN r _ m e s' m' h hb
        refine ⟨hp,?_⟩
        intro K w0 φ w a c0 cs u n Q hI ht hd hm hQ
        simp only [wpOpsSIn,ho]
        rw [if_neg (by rw [wanted_eq ht];exact hw)]
        exact ⟨fun f _=>trivial,hh K w0 φ w _ c0 cs u n Q hI (by exact vrs_put ht (VR.undef φ) _) (by rw [put_defers];exact hd) hm hQ⟩
def DOk (P:Program)(c:Code)(s:St)(m:Mo)(e:Ex) (s':St) (m':Mo):Prop:=s.h.base≤s.h.bl.length →
    Pres s.h s'.h∧∀(K:Nat→Prop) (w0:World) (φ:Phi) (w:World) (a:Act) (c0:Frame) (cs:List Frame) (u:FrameMode) (n:Nat),
      Inv K w0 φ s.h.bl w→VRs φ s.t.toArray a.tmps→DRs φ s.d a.defers→MoR φ m u→c.wpSIn Fence.wide n P (DQ K w0 φ e s' m' c0 cs) a ({ c0 with mode:=u }::cs) w
theorem dplain (hs:SelfOk P self) {c:Code}{s:St}{m:Mo}{e:Ex} {s':St} {m':Mo}(h:(match self (.code none c s) with | some (.ex e s')=>some (e,s',m) | _=>none)=some (e,s',m')):DOk P c s m e s' m':=by
  split at h
  · rename_i e1 s1 hc
    simp only [Option.some.injEq,Prod.mk.injEq]at h
    obtain ⟨rfl,rfl,rfl⟩:=h
    intro hb
    obtain ⟨hp,hh⟩:=hs _ _ hc hb
    refine ⟨hp,?_⟩
    intro K w0 φ w a c0 cs u n hI ht hd hm
    refine wpSIn_of_wpIn rfl (wpIn_mono (hh K w0 φ w a Fence.wide n hI ht hd rfl) ?_)
    rintro x a' w' ⟨φ',hle,hx,ht',hd',hI'⟩
    exact ⟨φ',u,hle,hx,ht',hd',hI',hm.mono hle,rfl⟩
  · cases h
theorem dcode_sound (hN:NoNG P)(hs:SelfOk P self):∀(c:Code) (s:St) (m:Mo) (e:Ex) (s':St) (m':Mo),dcode P self c s m=some (e,s',m')→DOk P c s m e s' m'
  | .seq x y,s,m,e,s',m',h=>by
    simp only [dcode]at h
    intro hb
    cases hx:dcode P self x s m with
    | none=>rw [hx]at h;cases h
    | some r =>
      obtain ⟨e1,s1,m1⟩:=r
      rw [hx]at h
      obtain ⟨hp1,h1⟩:=dcode_sound hN hs x s m e1 s1 m1 hx hb
      have hb1:s1.h.base≤s1.h.bl.length:=by rw [hp1.base];exact Nat.le_trans hb hp1.len
      by_cases hn:e1=.normal
      · subst hn
        simp only at h
        obtain ⟨hp2,h2⟩:=dcode_sound hN hs y s1 m1 e s' m' h hb1
        refine ⟨hp1.trans hp2,?_⟩
        intro K w0 φ w a c0 cs u n hI ht hd hm
        refine wpSIn_seq (wpSIn_mono ?_ (h1 K w0 φ w a c0 cs u n hI ht hd hm))
        rintro x' a' cs' w' ⟨φ',u',hle,hx',ht',hd',hI',hm',rfl⟩
        cases hx'
        exact wpSIn_mono (fun _ _ _ _ hq=>hq.mono hle) (h2 K w0 φ' w' a' c0 cs u' n hI' ht' hd' hm')
      · have h':(e1,s1,m1)=(e,s',m'):=by
          cases e1<;>first | exact absurd rfl hn | (simp only [Option.some.injEq]at h;exact h)
        cases h'
        refine ⟨hp1,?_⟩
        intro K w0 φ w a c0 cs u n hI ht hd hm
        refine wpSIn_seq (wpSIn_mono ?_ (h1 K w0 φ w a c0 cs u n hI ht hd hm))
        rintro x' a' cs' w' ⟨φ',u',hle,hx',rest⟩
        cases hx' with
        | normal=>exact absurd rfl hn
        | exit id=>exact ⟨φ',u',hle,.exit id,rest⟩
        | goto l=>exact ⟨φ',u',hle,.goto l,rest⟩
        | ret=>exact ⟨φ',u',hle,.ret,rest⟩
        | panic hv=>exact ⟨φ',u',hle,.panic hv,rest⟩
  | .cond c x y,s,m,e,s',m',h=>by
    simp only [dcode]at h
    intro hb
    split at h
    · rename_i hc
      split at h
      · rename_i hv
        obtain ⟨hp,hh⟩:=dcode_sound hN hs x s m e s' m' h hb
        refine ⟨hp,?_⟩
        intro K w0 φ w a c0 cs u n hI ht hd hm
        have hcv:=evs_t ht c hc
        rw [hv]at hcv
        exact wpSIn_cond (t:=true) (gr_eq (v:=.bool true) rfl hcv) (hh K w0 φ w a c0 cs u n hI ht hd hm)
      · rename_i hv
        obtain ⟨hp,hh⟩:=dcode_sound hN hs y s m e s' m' h hb
        refine ⟨hp,?_⟩
        intro K w0 φ w a c0 cs u n hI ht hd hm
        have hcv:=evs_t ht c hc
        rw [hv]at hcv
        exact wpSIn_cond (t:=false) (gr_eq (v:=.bool false) rfl hcv) (hh K w0 φ w a c0 cs u n hI ht hd hm)
      · cases h
    · cases h
  | .region id os dr,s,m,e,s',m',h=>by
    simp only [dcode]at h
    split at h
    · rename_i hc
      simp only [Bool.and_eq_true,Bool.not_eq_true']at hc
      obtain ⟨_,rfl⟩:=hc
      intro hb
      obtain ⟨hp,hh⟩:=runDOps_sound hN _ s m e s' m' h hb
      refine ⟨hp,?_⟩
      intro K w0 φ w a c0 cs u n hI ht hd hm
      exact wpSIn_region (hh K w0 φ w a c0 cs u n _ hI ht hd hm (fun _ _ _ _ hq=>hq))
    · exact dplain hs h
  | .skip,s,m,e,s',m',h=>dplain hs h
  | .block id c,s,m,e,s',m',h=>dplain hs h
  | .loop c,s,m,e,s',m',h=>dplain hs h
  | .rangeFunc g ps as bd,s,m,e,s',m',h=>dplain hs h
  | .exit id,s,m,e,s',m',h=>dplain hs h
  | .scope c,s,m,e,s',m',h=>dplain hs h
  | .label l,s,m,e,s',m',h=>dplain hs h
  | .goto l,s,m,e,s',m',h=>dplain hs h
  | .ret,s,m,e,s',m',h=>dplain hs h
  | .refuse w,s,m,e,s',m',h=>dplain hs h
theorem dcall_sound (hN:NoNG P)(hs:SelfOk P self)(drawn:Program→Self→Option Nat→Nat→Array Oper→St→Option Out) {f:FuncId}{args:Array Value}{m:Mo}{h:Hp}{o:Out}(hc:stepF drawn P self (.dcall f args m h)=some o):TaskOk P (.dcall f args m h) o:=by
  simp only [stepF,forceL1_eq]at hc
  split at hc
  case h_2=>cases hc
  rename_i fn hfn
  split at hc
  case h_2=>cases hc
  rename_i c hbody
  have main:∀(e:Ex) (s:St) (m':Mo),(e=.normal∨e=.ret)→dcode P self c { t:=frame fn args,d:=[],h:=enterH h } m=some (e,s,m') →
      (if s.d.isEmpty then match resB P s.h.bl fn s.t.toArray with | some _=>some (.dret m' (exitH h s.h (moVal m'))) | none=>none else none)=some o→TaskOk P (.dcall f args m h) o:=by
    intro e s m' he hd ho
    split at ho
    · rename_i hemp
      split at ho
      · rename_i v hv
        simp only [Option.some.injEq]at ho;subst ho
        intro hb
        obtain ⟨hp,hh⟩:=dcode_sound hN hs c _ m e s m' hd (Nat.le_refl _)
        refine ⟨exit_pres hb hp _,?_⟩
        intro K w0 φ w args' u n hI hargs hm
        refine callsDIn_of_wpSIn hfn hbody trivial ?_
        intro c0 cs hu
        have hc0:({ c0 with mode:=u }:Frame)=c0:=by subst hu;rfl
        have hw:=hh K w0 φ w { tmps:=args'++Array.replicate (fn.ntmps-args'.size) undef,defers:=[] } c0 cs u n hI (vrs_frame fn hargs) .nil hm
        rw [hc0]at hw
        refine wpSIn_mono ?_ hw
        rintro x a cs' w' ⟨φ',u',hle,hx,ht,hdd,hI',hm',rfl⟩
        have hnil:a.defers=[]:=by
          have:s.d=[]:=List.isEmpty_iff.1 hemp
          rw [this]at hdd
          have key:∀l,DRs φ' [] l→l=[]:=fun l h=>by cases h;rfl
          exact key _ hdd
        obtain ⟨v',hr,hvv⟩:=resB_sound hI' ht hv
        obtain ⟨φ'',k1,hmo,k3⟩:∃φ'',le φ φ''∧MoR φ'' m' u'∧Inv K w0 φ'' (exitH h s.h (moVal m')).bl w':=by
          cases hm' with
          | returning =>
            obtain ⟨_,φ'',k1,k2,k3⟩:=exit_sound hb hI hI' hle hp (VR.undef φ')
            exact ⟨φ'',k1,.returning,k3⟩
          | panicking done hvm =>
            obtain ⟨_,φ'',k1,k2,k3⟩:=exit_sound hb hI hI' hle hp hvm
            exact ⟨φ'',k1,.panicking done k2,k3⟩
        rcases he with rfl | rfl
        · cases hx
          exact ⟨hnil,u',rfl,v',hr,v',rfl,φ'',k1,hmo,k3⟩
        · cases hx
          exact ⟨hnil,u',rfl,v',hr,v',rfl,φ'',k1,hmo,k3⟩
      · cases ho
    · cases ho
  split at hc
  · rename_i s m' hd
    exact main .normal s m' (.inl rfl) hd hc
  · rename_i s m' hd
    exact main .ret s m' (.inr rfl) hd hc
  · cases hc
end
section
variable {P:Program}{self:Self}
theorem zip_fold {φ:Phi}:∀(ps:List Tmp) {l l':List Value} (_:VRl φ l l') {t t':Array Value} (_:VRs φ t t'),VRs φ ((ps.zip l).foldl (fun t (p,a)=>t.setIfInBounds p a) t) ((ps.zip l').foldl (fun t (p,a)=>t.setIfInBounds p a) t')
  | [],_,_,_,_,_,ht=>ht
  | _::_,_,_,.nil,_,_,ht=>ht
  | p::ps,_,_,.cons hv hr,_,_,ht=>zip_fold ps hr (ht.set hv p)
theorem zip_tmps {φ:Phi}(ps:Array Tmp) {args args' t t':Array Value}(ha:VRs φ args args') (ht:VRs φ t t') :
    VRs φ ((ps.zip args).foldl (fun t (p,a)=>t.setIfInBounds p a) t) ((ps.zip args').foldl (fun t (p,a)=>t.setIfInBounds p a) t'):=by
  rw [← Array.foldl_toList,← Array.foldl_toList,Array.toList_zip,Array.toList_zip]
  exact zip_fold _ ha.toList ht
theorem round_sound (hs:SelfOk P self)(drawn:Program→Self→Option Nat→Nat→Array Oper→St→Option Out) {l:Nat}{args:Array Value}{h:Hp}{o:Out}(hc:stepF drawn P self (.round l args h)=some o):TaskOk P (.round l args h) o:=by
  simp only [stepF]at hc
  split at hc
  case h_2=>cases hc
  rename_i pend t ps assign body D hl
  split at hc
  case isFalse=>cases hc
  rename_i hsz
  split at hc
  case h_2=>cases hc
  rename_i s1 hassign
  split at hc
  case h_2=>cases hc
  rename_i pend1 t1 ps1 a1 b1 D1 hl1
  split at hc
  case h_2=>cases hc
  rename_i e s2 hbody
  split at hc
  case h_2=>cases hc
  rename_i j st2 pend2 t2 ps2 a2 b2 D2 hj hl2
  simp only [Option.some.injEq]at hc;subst hc
  intro hb
  obtain ⟨hp1,hh1⟩:=hs _ _ hassign hb
  have hb1:s1.h.base≤s1.h.bl.length:=by rw [hp1.base];exact Nat.le_trans hb hp1.len
  have hpb:=Pres.put s1.h l (.loop .busy pend1 t1 ps1 a1 b1 D1)
  obtain ⟨hp2,hh2⟩:=hs _ _ hbody (by rw [hpb.base];exact Nat.le_trans hb1 hpb.len)
  refine ⟨hp1.trans (hpb.trans (hp2.trans (Pres.put _ _ _))),?_⟩
  intro K w0 φ w args' B tb n hI hargs hφ
  obtain ⟨B',base',tot',q1,_,fn,tm,D',q2,q3,td,q4⟩:=hI.obs l _ hl rfl
  rw [hφ]at q1;cases q1
  refine ⟨fn,_,assign,body,run_yield q2 (by simp only;rw [← hargs.size];exact hsz),roundIn_of_wpIn trivial (wpIn_mono (hh1 K w0 φ w _ (Fence.wide.inRound B) n hI (zip_tmps ps hargs q3) .nil ⟨B,tb,hφ,rfl⟩) ?_)⟩
  rintro x a w1 ⟨φ1,hle1,hx,ht1,hd1,hI1⟩
  cases hx
  obtain ⟨B',base',tot',r1,r0,fn1,tm1,D1',r2,r3,td1,r4⟩:=hI1.obs l _ hl1 rfl
  rw [hle1 _ _ hφ]at r1;cases r1
  have hlt:B<w1.heap.size:=(Array.getElem?_eq_some_iff.1 r2).1
  refine ⟨_,run_beginRound r2 rfl,?_⟩
  have hI1':Inv K w0 φ1 (s1.h.put l (.loop .busy pend1 t1 ps1 a1 b1 D1)).bl (w1.putObj B (.loop { state:=.busy,pending:=pend1,fn:=fn1,tmps:=tm1,params:=ps1,assign:=a1,body:=b1,defers:=D1' })) :=
    hI1.write hl1 rfl (hle1 _ _ hφ) putObj_frame (by simp) rfl rfl rfl ⟨rfl,fn1,tm1,D1',World.putObj_heap_same hlt,r3,td1,r4⟩
  refine wpIn_mono (hh2 K w0 φ1 _ a (Fence.wide.inRound B) n hI1' ht1 hd1 ⟨B,tb,hle1 _ _ hφ,rfl⟩) ?_
  rintro x a' w2 ⟨φ2,hle2,hx,ht2,hd2,hI2⟩
  obtain ⟨B',base',tot',k1,k0,fn2,tm2,D2',k2,k3,td2,k4⟩:=hI2.obs l _ hl2 rfl
  rw [hle2 _ _ (hle1 _ _ hφ)]at k1;cases k1
  have hlt2:B<w2.heap.size:=(Array.getElem?_eq_some_iff.1 k2).1
  have fin:∀jump:Option Code,j=jump→∃v w',(Instr.endRound B jump).run P w2=.ok v w'∧RetR K w0 φ (.bool j.isNone) (s2.h.put l (.loop (if j.isNone then .ready else .done) j t2 ps2 a2 b2 D2)) (.returned v) w':=by
    rintro jump rfl
    refine ⟨_,_,run_endRound j k2,φ2,le_trans hle1 hle2,.bool _,?_⟩
    exact hI2.write hl2 rfl (hle2 _ _ (hle1 _ _ hφ)) putObj_frame (by simp) rfl rfl rfl ⟨rfl,fn2,tm2,D2',World.putObj_heap_same hlt2,k3,td2,k4⟩
  cases hx with
  | normal=>simp only [jumpOf,Option.some.injEq]at hj;exact fin none hj.symm
  | ret=>simp only [jumpOf,Option.some.injEq]at hj;exact fin _ hj.symm
  | exit id=>simp only [jumpOf,Option.some.injEq]at hj;exact fin _ hj.symm
  | goto t=>simp only [jumpOf,Option.some.injEq]at hj;exact fin _ hj.symm
  | panic hv=>simp [jumpOf]at hj
def DrawnOk (P:Program)(drawn:Program→Self→Option Nat→Nat→Array Oper→St→Option Out):Prop :=
  ∀(self:Self),SelfOk P self→∀(rd:Option Nat) (id:Nat) (os:Array Oper) (s:St) (o:Out),drawn P self rd id os s=some o→TaskOk P (.code rd (.region id os true) s) o
theorem endLoop_sound (hs:SelfOk P self) {rd:Option Nat}{L:Nat}{d:List Deferred}{t:List Value}{h:Hp}{v:Value}{o:Out}(he:endLoop self rd L d t (some (.ret v h))=some o) (hb:h.base≤h.bl.length) :
    ∃e s',o=.ex e s'∧Pres h s'.h∧∀(K:Nat→Prop) (w0:World) (φ:Phi) (w:World) (a:Act) (F:Fence) (n:Nat) (B tb:Nat),
      Inv K w0 φ h.bl w→VRs φ t.toArray a.tmps→DRs φ d a.defers→FenceOk φ rd F→φ L=some (B,0,tb) →
      ∃jump w',(Instr.endLoop B).run P w=.ok jump w'∧(match jump with | none=>CodeR K w0 φ e s' .normal a w' | some c=>c.wpIn F n P (CodeR K w0 φ e s') a w'):=by
  simp only [endLoop]at he
  split at he
  case h_2=>cases he
  rename_i st pend t' ps as bd D hl
  split at he
  · cases he
  rename_i hst
  have hpp:=fun p=>Pres.put h L (.loop .exhausted p t' ps as bd D)
  have step:∀(K:Nat→Prop) (w0:World) (φ:Phi) (w:World) (B tb:Nat),Inv K w0 φ h.bl w→φ L=some (B,0,tb) →
      ∃w',(Instr.endLoop B).run P w=.ok pend w'∧Inv K w0 φ (h.put L (.loop .exhausted pend t' ps as bd D)).bl w':=by
    intro K w0 φ w B tb hI hφ
    obtain ⟨B',base',tot',k1,k0,fn2,tm2,D2',k2,k3,td2,k4⟩:=hI.obs L _ hl rfl
    rw [hφ]at k1;cases k1
    have hlt:B<w.heap.size:=(Array.getElem?_eq_some_iff.1 k2).1
    exact ⟨_,run_endLoop k2 hst,hI.write hl rfl hφ putObj_frame (by simp) rfl rfl rfl ⟨rfl,fn2,tm2,D2',World.putObj_heap_same hlt,k3,td2,k4⟩⟩
  cases pend with
  | none =>
    simp only [Option.some.injEq]at he;subst he
    refine ⟨.normal,_,rfl,hpp _,?_⟩
    intro K w0 φ w a F n B tb hI ht hd hF hφ
    obtain ⟨w',hr,hI'⟩:=step K w0 φ w B tb hI hφ
    exact ⟨none,w',hr,φ,le_refl φ,.normal,ht,hd,hI'⟩
  | some c =>
    simp only at he
    split at he
    · rename_i e s' hc
      simp only [Option.some.injEq]at he;subst he
      obtain ⟨hp,hh⟩:=hs _ _ hc (by simp only;rw [(hpp _).base];exact Nat.le_trans hb (hpp _).len)
      refine ⟨e,s',rfl,(hpp _).trans hp,?_⟩
      intro K w0 φ w a F n B tb hI ht hd hF hφ
      obtain ⟨w',hr,hI'⟩:=step K w0 φ w B tb hI hφ
      exact ⟨some c,w',hr,hh K w0 φ w' a F n hI' ht hd hF⟩
    · cases he
theorem endLoop_ret {rd:Option Nat}{L:Nat}{d:List Deferred}{t:List Value}{x:Option Out}{o:Out}(he:endLoop self rd L d t x=some o):∃v h,x=some (.ret v h):=by
  unfold endLoop at he
  split at he
  · exact ⟨_,_,rfl⟩
  · cases he
theorem run_enterLoop_inner {w:World}{l:Nat}{r:Loop}(h:w.heap[l]?=some (.loop r)) (fn:FuncId) (tmps:Array Value) (ps:Array Tmp) (assign body:Code) :
    (Instr.enterLoop fn tmps ps assign body (some l)).run P w=.ok (w.heap.size,[]) (w.alloc (.loop { state:=.ready,pending:=none,fn,tmps,params:=ps,assign,body,defers:=r.defers })):=by
  unfold Instr.enterLoop
  simp only [Sem.run_bind,run_getLoop h,Result.andThen_ok,Sem.run_pure,run_newObj]
  rfl
theorem rangeFunc_sound (hN:NoNG P)(hs:SelfOk P self)(drawn:Program→Self→Option Nat→Nat→Array Oper→St→Option Out) {rd:Option Nat}{g:Operand}{ps:Array Tmp}{assign body:Code}{s:St}{o:Out}
    (hc:stepF drawn P self (.code rd (.rangeFunc g ps assign body) s)=some o):TaskOk P (.code rd (.rangeFunc g ps assign body) s) o:=by
  simp only [stepF]at hc
  split at hc
  case isFalse=>cases hc
  rename_i hg
  split at hc
  case h_2=>cases hc
  rename_i f first cap hv
  split at hc
  case isFalse=>cases hc
  rename_i hbd
  have hval:∀{φ:Phi} {a:Act},VRs φ s.t.toArray a.tmps→∃first' cap',a.eval g=.func (.func f) first' cap'∧VRs φ first first'∧VRs φ cap cap':=by
    intro φ a ht
    have hgv:=evs_t ht g hg
    rw [hv]at hgv
    generalize a.eval g=x at hgv
    cases hgv with
    | fn _ h1 h2 h3 h4=>exact ⟨_,_,rfl,VRs.of h1 h2,VRs.of h3 h4⟩
  have hargs:∀{φ:Phi} {first' cap':Array Value} {L B tb:Nat},VRs φ first first'→VRs φ cap cap'→φ L=some (B,0,tb)→VRs φ (first++#[.func (.yield L) #[] #[]]++cap) (first'++#[.func (.yield B) #[] #[]]++cap') :=
    fun h1 h2 h3=>(h1.append (VRs.one (.yield h3))).append h2
  have hres:∀{a:Act} {first' cap':Array Value} {w:World} (l:Nat),a.eval g=.func (.func f) first' cap'→(resolve a.eval (rangeCall g l) 0).run P w=.ok { target:=.fn (.func f) cap',args:=first'++#[.func (.yield l) #[] #[]] } w:=by
    intro a first' cap' w l he
    have e:Array.map a.eval #[Operand.const (.func (.yield l) #[] #[])]=#[.func (.yield l) #[] #[]]:=by simp [Act.eval]
    simp only [resolve,he,Deferred.ofValue,e,Sem.run_pure]
  cases rd with
  | none =>
    simp only at hc
    obtain ⟨v,h',hcall⟩:=endLoop_ret hc
    rw [hcall]at hc
    have hp0:∀hb:s.h.base≤s.h.bl.length,Pres s.h ((s.h.push (.dfr false)).push (loopNew s ps assign body s.h.bl.length)):=fun hb=>(Pres.push _ _ hb).trans (Pres.push _ _ (by simp [Hp.push];omega))
    have hbase0:s.h.base≤s.h.bl.length→((s.h.push (.dfr false)).push (loopNew s ps assign body s.h.bl.length)).base≤((s.h.push (.dfr false)).push (loopNew s ps assign body s.h.bl.length)).bl.length:=fun hb=>by simp [Hp.push];omega
    have hcallok:=hs _ _ hcall
    by_cases hb:s.h.base≤s.h.bl.length
    · obtain ⟨hp1,hcc⟩:=hcallok (hbase0 hb)
      obtain ⟨e,s',rfl,hp2,hh⟩:=endLoop_sound hs hc (by rw [hp1.base];exact Nat.le_trans (hbase0 hb) hp1.len)
      refine fun _=>⟨(hp0 hb).trans (hp1.trans hp2),?_⟩
      intro K w0 φ w a F n hI ht hd hF
      have hF':F=Fence.wide:=hF
      subst hF'
      obtain ⟨first',cap',he,h1,h2⟩:=hval ht
      refine wpIn_rangeFunc ?_
      intro fn _
      obtain ⟨rec,hrec⟩:∃rec:Loop,rec={ state:=.ready,pending:=none,fn,tmps:=a.tmps,params:=ps,assign,body,defers:=w.heap.size }:=⟨_,rfl⟩
      have hI1:=hI.alloc (.dfr false) (.deferred (some [])) 0 ⟨rfl,World.alloc_heap_new w _⟩
      have hle1:=hI.le_new (w.heap.size,0,0)
      have hlen:(s.h.bl++[Ob.dfr false]).length=s.h.bl.length+1:=by simp
      have hsz1:(w.alloc (.deferred (some []))).heap.size=w.heap.size+1:=World.size_alloc _ _
      have hle2:=hI1.le_new ((w.alloc (.deferred (some []))).heap.size,0,0)
      have hI2:=hI1.alloc (loopNew s ps assign body s.h.bl.length) (.loop rec) 0
        ⟨rfl,fn,a.tmps,w.heap.size,by rw [World.alloc_heap_new,hrec],(ht.mono hle1).mono hle2,0,hle2 _ _ (up_same _ _ _)⟩
      rw [hlen,hsz1]at hI2 hle2
      have hφL:up (up φ s.h.bl.length (w.heap.size,0,0)) (s.h.bl.length+1) (w.heap.size+1,0,0) (s.h.bl.length+1)=some (w.heap.size+1,0,0):=up_same _ _ _
      have hle:=le_trans hle1 hle2
      refine ⟨w.heap.size+1,[{ target:=.collected w.heap.size,args:=#[] }],(w.alloc (.deferred (some []))).alloc (.loop rec),_,_,f,first'++#[.func (.yield (w.heap.size+1)) #[] #[]]++cap',(w.alloc (.deferred (some []))).alloc (.loop rec),by rw [hrec];exact run_enterLoop_outer _ _ _ _ _,hres _ he,fun _ _=>trivial,?_,(fun h=>nomatch h),?_⟩
      · simp only [invoke];exact run_callFunc hN hbd
      · refine (hcc K w0 _ _ _ (n-1) hI2 (hargs (h1.mono hle) (h2.mono hle) hφL)).mono ?_
        intro en w3 hen
        cases en with
        | returned v' =>
          obtain ⟨φ3,hle3,_,hI3⟩:=hen
          obtain ⟨jump,w4,hr,hj⟩:=hh K w0 φ3 w3 { a with defers:=[{ target:=.collected w.heap.size,args:=#[] }]++a.defers } Fence.wide n (w.heap.size+1) 0 hI3 ((ht.mono hle).mono hle3)
            (.cons (.inr ⟨_,_,0,rfl,rfl,hle3 _ _ (hle2 _ _ (up_same _ _ _))⟩) ((hd.mono hle).mono hle3)) rfl (hle3 _ _ hφL)
          refine ⟨jump,w4,hr,?_⟩
          cases jump with
          | none=>exact hj.mono (le_trans hle hle3)
          | some c=>exact wpIn_mono hj fun _ _ _ hq=>hq.mono (le_trans hle hle3)
        | panicked ch=>exact hen.elim
        | outgrown=>exact hen.elim
    · exact absurd_out hs hc hb
  | some l0 =>
    simp only at hc
    split at hc
    case h_2=>cases hc
    rename_i st0 pend0 t0 ps0 as0 bd0 D hl0
    obtain ⟨v,h',hcall⟩:=endLoop_ret hc
    rw [hcall]at hc
    have hcallok:=hs _ _ hcall
    have hbase0:s.h.base≤s.h.bl.length→(s.h.push (loopNew s ps assign body D)).base≤(s.h.push (loopNew s ps assign body D)).bl.length:=fun hb=>by simp [Hp.push];omega
    by_cases hb:s.h.base≤s.h.bl.length
    · obtain ⟨hp1,hcc⟩:=hcallok (hbase0 hb)
      obtain ⟨e,s',rfl,hp2,hh⟩:=endLoop_sound hs hc (by rw [hp1.base];exact Nat.le_trans (hbase0 hb) hp1.len)
      refine fun _=>⟨(Pres.push _ _ hb).trans (hp1.trans hp2),?_⟩
      intro K w0 φ w a F n hI ht hd hF
      have hFF:=hF
      obtain ⟨L0,tl0,hφ0,hFe⟩:=hF
      obtain ⟨first',cap',he,h1,h2⟩:=hval ht
      obtain ⟨B',base',tot',q1,_,fn0,tm0,D0,q2,q3,td,q4⟩:=hI.obs l0 _ hl0 rfl
      rw [hφ0]at q1;cases q1
      refine wpIn_rangeFunc ?_
      intro fn _
      obtain ⟨rec,hrec⟩:∃rec:Loop,rec={ state:=.ready,pending:=none,fn,tmps:=a.tmps,params:=ps,assign,body,defers:=D0 }:=⟨_,rfl⟩
      have hle:=hI.le_new (w.heap.size,0,0)
      have hI2:=hI.alloc (loopNew s ps assign body D) (.loop rec) 0 ⟨rfl,fn,a.tmps,D0,by rw [World.alloc_heap_new,hrec],ht.mono hle,td,hle _ _ q4⟩
      have hφL:up φ s.h.bl.length (w.heap.size,0,0) s.h.bl.length=some (w.heap.size,0,0):=up_same _ _ _
      refine ⟨w.heap.size,[],w.alloc (.loop rec),_,_,f,first'++#[.func (.yield w.heap.size) #[] #[]]++cap',w.alloc (.loop rec),by rw [hrec,hFe];exact run_enterLoop_inner q2 _ _ _ _ _,hres _ he,fun _ _=>hFF.fn _,?_,hFF.depth n,?_⟩
      · simp only [invoke];exact run_callFunc hN hbd
      · refine (hFF.calls (hcc K w0 _ _ _ (n-1) hI2 (hargs (h1.mono hle) (h2.mono hle) hφL))).mono ?_
        intro en w3 hen
        cases en with
        | returned v' =>
          obtain ⟨φ3,hle3,_,hI3⟩:=hen
          obtain ⟨jump,w4,hr,hj⟩:=hh K w0 φ3 w3 { a with defers:=[]++a.defers } F n w.heap.size 0 hI3 ((ht.mono hle).mono hle3) ((hd.mono hle).mono hle3) ((hFF.mono hle).mono hle3) (hle3 _ _ hφL)
          refine ⟨jump,w4,hr,?_⟩
          cases jump with
          | none=>exact hj.mono (le_trans hle hle3)
          | some c=>exact wpIn_mono hj fun _ _ _ hq=>hq.mono (le_trans hle hle3)
        | panicked ch=>exact hen.elim
        | outgrown=>exact hen.elim
    · exact absurd_out hs hc hb
where
  absurd_out {self:Self} (hs:SelfOk P self) {rd:Option Nat} {L:Nat} {d:List Deferred} {t:List Value} {v:Value} {h:Hp} {c:Code} {s:St} {o:Out} (he:endLoop self rd L d t (some (.ret v h))=some o) (hb:¬s.h.base≤s.h.bl.length):TaskOk P (.code rd c s) o:=by
    have:∃e s',o=.ex e s':=by
      simp only [endLoop]at he
      split at he
      · split at he
        · cases he
        · split at he
          · simp only [Option.some.injEq]at he;exact ⟨_,_,he.symm⟩
          · split at he
            · simp only [Option.some.injEq]at he;exact ⟨_,_,he.symm⟩
            · cases he
      · cases he
    obtain ⟨e,s',rfl⟩:=this
    exact fun h=>absurd h hb
end
section
variable {P:Program}{self:Self}{drawn:Program→Self→Option Nat→Nat→Array Oper→St→Option Out}
theorem base_of {h h':Hp}(hb:h.base≤h.bl.length) (hp:Pres h h'):h'.base≤h'.bl.length:=by rw [hp.base];exact Nat.le_trans hb hp.len
theorem seq_sound (hs:SelfOk P self) {rd:Option Nat}{x y:Code}{s:St}{o:Out}(hc:stepF drawn P self (.code rd (.seq x y) s)=some o):TaskOk P (.code rd (.seq x y) s) o:=by
  simp only [stepF]at hc
  split at hc
  · rename_i s1 h1
    split at hc
    · rename_i e s2 h2
      simp only [Option.some.injEq]at hc;subst hc
      intro hb
      obtain ⟨hp1,hh1⟩:=hs _ _ h1 hb
      obtain ⟨hp2,hh2⟩:=hs _ _ h2 (base_of hb hp1)
      refine ⟨hp1.trans hp2,?_⟩
      intro K w0 φ w a F n hI ht hd hF
      refine wpIn_seq (wpIn_mono (hh1 K w0 φ w a F n hI ht hd hF) ?_)
      rintro x a' w' ⟨φ',hle,hx,ht',hd',hI'⟩
      cases hx
      exact wpIn_mono (hh2 K w0 φ' w' a' F n hI' ht' hd' (hF.mono hle)) fun _ _ _ hq=>hq.mono hle
    · cases hc
  · rename_i e s1 hne h1
    simp only [Option.some.injEq]at hc;subst hc
    intro hb
    obtain ⟨hp1,hh1⟩:=hs _ _ h1 hb
    refine ⟨hp1,?_⟩
    intro K w0 φ w a F n hI ht hd hF
    refine wpIn_seq (wpIn_mono (hh1 K w0 φ w a F n hI ht hd hF) ?_)
    rintro x a' w' ⟨φ',hle,hx,rest⟩
    cases hx with
    | normal=>exact (hne rfl).elim
    | exit id=>exact ⟨φ',hle,.exit id,rest⟩
    | goto l=>exact ⟨φ',hle,.goto l,rest⟩
    | ret=>exact ⟨φ',hle,.ret,rest⟩
    | panic hv=>exact ⟨φ',hle,.panic hv,rest⟩
  · cases hc
theorem cond_sound (hs:SelfOk P self) {rd:Option Nat}{c:Operand}{x y:Code}{s:St}{o:Out}(hc:stepF drawn P self (.code rd (.cond c x y) s)=some o):TaskOk P (.code rd (.cond c x y) s) o:=by
  simp only [stepF]at hc
  split at hc
  case isFalse=>cases hc
  rename_i hok
  split at hc
  · rename_i hv
    split at hc
    · rename_i e s1 h1
      simp only [Option.some.injEq]at hc;subst hc
      intro hb
      obtain ⟨hp1,hh1⟩:=hs _ _ h1 hb
      refine ⟨hp1,?_⟩
      intro K w0 φ w a F n hI ht hd hF
      have hcv:=evs_t ht c hok
      rw [hv]at hcv
      exact wpIn_cond (t:=true) (gr_eq (v:=.bool true) rfl hcv) (hh1 K w0 φ w a F n hI ht hd hF)
    · cases hc
  · rename_i hv
    split at hc
    · rename_i e s1 h1
      simp only [Option.some.injEq]at hc;subst hc
      intro hb
      obtain ⟨hp1,hh1⟩:=hs _ _ h1 hb
      refine ⟨hp1,?_⟩
      intro K w0 φ w a F n hI ht hd hF
      have hcv:=evs_t ht c hok
      rw [hv]at hcv
      exact wpIn_cond (t:=false) (gr_eq (v:=.bool false) rfl hcv) (hh1 K w0 φ w a F n hI ht hd hF)
    · cases hc
  · cases hc
theorem block_sound (hs:SelfOk P self) {rd:Option Nat}{id:Nat}{c:Code}{s:St}{o:Out}(hc:stepF drawn P self (.code rd (.block id c) s)=some o):TaskOk P (.code rd (.block id c) s) o:=by
  simp only [stepF]at hc
  split at hc
  · rename_i id' s1 h1
    split at hc
    · rename_i hid
      subst hid
      simp only [Option.some.injEq]at hc;subst hc
      intro hb
      obtain ⟨hp1,hh1⟩:=hs _ _ h1 hb
      refine ⟨hp1,?_⟩
      intro K w0 φ w a F n hI ht hd hF
      refine wpIn_block (wpIn_mono (hh1 K w0 φ w a F n hI ht hd hF) ?_)
      rintro x a' w' ⟨φ',hle,hx,rest⟩
      cases hx
      simp only [Exit.inBlock,if_true]
      exact ⟨φ',hle,.normal,rest⟩
    · rename_i hid
      simp only [Option.some.injEq]at hc;subst hc
      intro hb
      obtain ⟨hp1,hh1⟩:=hs _ _ h1 hb
      refine ⟨hp1,?_⟩
      intro K w0 φ w a F n hI ht hd hF
      refine wpIn_block (wpIn_mono (hh1 K w0 φ w a F n hI ht hd hF) ?_)
      rintro x a' w' ⟨φ',hle,hx,rest⟩
      cases hx
      simp only [Exit.inBlock,if_neg hid]
      exact ⟨φ',hle,.exit _,rest⟩
  · rename_i e s1 hne h1
    simp only [Option.some.injEq]at hc;subst hc
    intro hb
    obtain ⟨hp1,hh1⟩:=hs _ _ h1 hb
    refine ⟨hp1,?_⟩
    intro K w0 φ w a F n hI ht hd hF
    refine wpIn_block (wpIn_mono (hh1 K w0 φ w a F n hI ht hd hF) ?_)
    rintro x a' w' ⟨φ',hle,hx,rest⟩
    cases hx with
    | normal=>exact ⟨φ',hle,.normal,rest⟩
    | exit id=>exact (hne _ rfl).elim
    | goto l=>exact ⟨φ',hle,.goto l,rest⟩
    | ret=>exact ⟨φ',hle,.ret,rest⟩
    | panic hv=>exact ⟨φ',hle,.panic hv,rest⟩
  · cases hc
def wpLoopIn (F:Fence)(n:Nat)(P:Program)(c:Code)(Q:Exit→Act→World→Prop)(a:Act)(w:World):Prop :=
  ∀(b:Frame) (k:List Item) (cs:List Frame),b.roundOf=F.round→F.fn b.fn→F.room (cs.length+1+n) →
    ∃e a' w',Q e a' w'∧ArrivesIn (Machine.fenced P F) P (lone (b.atR a (.code c::.inLoop c::k)) cs w) b k cs e a' w'
theorem wpLoopIn_mono {F:Fence}{n:Nat}{c:Code} {Q Q':Exit→Act→World→Prop}{a:Act}{w:World}(h:wpLoopIn F n P c Q a w) (hq:∀e a w,Q e a w→Q' e a w):wpLoopIn F n P c Q' a w :=
  fun b k cs hro hb hr=>let ⟨e,a',w',q,r⟩:=h b k cs hro hb hr;⟨e,a',w',hq _ _ _ q,r⟩
theorem wpIn_of_rounds {F:Fence}{n:Nat}{c:Code}{Q:Exit→Act→World→Prop}{a:Act}{w:World}(h:wpLoopIn F n P c Q a w):(Code.loop c).wpIn F n P Q a w:=by
  intro b k cs hro hb hr
  obtain ⟨e,a',w',hq,harr⟩:=h b k cs hro hb hr
  exact ⟨e,a',w',hq,.of_steps (.one (fenced_calm hb hr rfl) stepR_loop) harr⟩
theorem rounds_of {F:Fence}{n:Nat}{c:Code}{Q:Exit→Act→World→Prop}{a:Act}{w:World}(h:c.wpIn F n P (Exit.then (wpLoopIn F n P c Q) Q) a w):wpLoopIn F n P c Q a w:=by
  intro b k cs hro hb hr
  obtain ⟨e,a₁,w₁,hq,harr⟩:=h b (.inLoop c::k) cs hro hb hr
  cases e with
  | normal =>
    obtain ⟨e₂,a₂,w₂,hq₂,harr₂⟩:=hq b k cs hro hb hr
    exact ⟨e₂,a₂,w₂,hq₂,.of_steps (StepsIn.trans harr (.one (fenced_calm hb hr rfl) stepR_inLoop)) harr₂⟩
  | exit id=>exact ⟨_,a₁,w₁,hq,.pass (x:=.inLoop c) rfl (fun _ _=>.inl (by simp)) harr⟩
  | goto l=>exact ⟨_,a₁,w₁,hq,.pass (x:=.inLoop c) rfl (fun _ _=>.inl (by simp)) harr⟩
  | ret=>exact ⟨_,a₁,w₁,hq,.pass (x:=.inLoop c) rfl (fun _ _=>.inl (by simp)) harr⟩
  | panic ch=>exact ⟨_,a₁,w₁,hq,.pass (x:=.inLoop c) rfl (fun _ _=>.inl (by simp)) harr⟩
  | outgrown=>exact ⟨_,a₁,w₁,hq,.pass (x:=.inLoop c) rfl (fun _ _=>.inl (by simp)) harr⟩
def LoopOk (P:Program)(self:Self):Prop:=∀(rd:Option Nat) (c:Code) (s:St) (e:Ex) (s':St),self (.code rd (.loop c) s)=some (.ex e s')→s.h.base≤s.h.bl.length →
  ∀(K:Nat→Prop) (w0:World) (φ:Phi) (w:World) (a:Act) (F:Fence) (n:Nat),Inv K w0 φ s.h.bl w→VRs φ s.t.toArray a.tmps→DRs φ s.d a.defers→FenceOk φ rd F→wpLoopIn F n P c (CodeR K w0 φ e s') a w
theorem loop_sound (hs:SelfOk P self)(hl:LoopOk P self) {rd:Option Nat}{c:Code}{s:St}{o:Out}(hc:stepF drawn P self (.code rd (.loop c) s)=some o) :
    ∃e s',o=.ex e s'∧(s.h.base≤s.h.bl.length→Pres s.h s'.h∧∀(K:Nat→Prop) (w0:World) (φ:Phi) (w:World) (a:Act) (F:Fence) (n:Nat),Inv K w0 φ s.h.bl w→VRs φ s.t.toArray a.tmps→DRs φ s.d a.defers→FenceOk φ rd F→wpLoopIn F n P c (CodeR K w0 φ e s') a w):=by
  simp only [stepF]at hc
  split at hc
  · rename_i s1 h1
    split at hc
    · rename_i e s2 h2
      simp only [Option.some.injEq]at hc;subst hc
      refine ⟨e,s2,rfl,fun hb=>?_⟩
      obtain ⟨hp1,hh1⟩:=hs _ _ h1 hb
      obtain ⟨hp2,_⟩:=hs _ _ h2 (base_of hb hp1)
      refine ⟨hp1.trans hp2,?_⟩
      intro K w0 φ w a F n hI ht hd hF
      refine rounds_of (wpIn_mono (hh1 K w0 φ w a F n hI ht hd hF) ?_)
      rintro x a' w' ⟨φ',hle,hx,ht',hd',hI'⟩
      cases hx
      exact wpLoopIn_mono (hl _ _ _ _ _ h2 (base_of hb hp1) K w0 φ' w' a' F n hI' ht' hd' (hF.mono hle)) fun _ _ _ hq=>hq.mono hle
    · cases hc
  · rename_i e s1 hne h1
    simp only [Option.some.injEq]at hc;subst hc
    refine ⟨e,s1,rfl,fun hb=>?_⟩
    obtain ⟨hp1,hh1⟩:=hs _ _ h1 hb
    refine ⟨hp1,?_⟩
    intro K w0 φ w a F n hI ht hd hF
    refine rounds_of (wpIn_mono (hh1 K w0 φ w a F n hI ht hd hF) ?_)
    rintro x a' w' ⟨φ',hle,hx,rest⟩
    cases hx with
    | normal=>exact (hne rfl).elim
    | exit id=>exact ⟨φ',hle,.exit id,rest⟩
    | goto l=>exact ⟨φ',hle,.goto l,rest⟩
    | ret=>exact ⟨φ',hle,.ret,rest⟩
    | panic hv=>exact ⟨φ',hle,.panic hv,rest⟩
  · cases hc
theorem step_ok (hN:NoNG P)(hdr:DrawnOk P drawn)(hs:SelfOk P self)(hl:LoopOk P self):SelfOk P (stepF drawn P self):=by
  intro t o hc
  cases t with
  | call f args h=>exact call_sound hN hs drawn hc
  | dcall f args m h=>exact dcall_sound hN hs drawn hc
  | round l args h=>exact round_sound hs drawn hc
  | code rd c s =>
    cases c with
    | seq x y=>exact seq_sound hs hc
    | cond c x y=>exact cond_sound hs hc
    | block id c=>exact block_sound hs hc
    | loop c =>
      obtain ⟨e,s',rfl,hh⟩:=loop_sound hs hl hc
      intro hb
      obtain ⟨hp,h2⟩:=hh hb
      exact ⟨hp,fun K w0 φ w a F n hI ht hd hF=>wpIn_of_rounds (h2 K w0 φ w a F n hI ht hd hF)⟩
    | rangeFunc g ps assign body=>exact rangeFunc_sound hN hs drawn hc
    | region id os dr =>
      simp only [stepF]at hc
      split at hc
      · rename_i hd
        subst hd
        exact hdr self hs rd id os s o hc
      · rename_i hd
        have hd':dr=false:=by cases dr<;>simp_all
        subst hd'
        by_cases hb:s.h.base≤s.h.bl.length
        · obtain ⟨e,s',rfl,hp,hh⟩:=runOps_sound hN hs _ s o hc hb
          exact fun _=>⟨hp,fun K w0 φ w a F n hI ht hd hF=>wpIn_region (hh K w0 φ w a F n _ hI ht hd hF (fun _ _ _ hq=>hq))⟩
        · obtain ⟨e,s',rfl⟩:=runOps_ex _ _ _ hc
          exact fun h=>absurd h hb
    | skip =>
      simp only [stepF,Option.some.injEq]at hc;subst hc
      exact fun _=>⟨Pres.refl _,fun K w0 φ w a F n hI ht hd hF=>wpIn_skip ⟨φ,le_refl φ,.normal,ht,hd,hI⟩⟩
    | label l =>
      simp only [stepF,Option.some.injEq]at hc;subst hc
      exact fun _=>⟨Pres.refl _,fun K w0 φ w a F n hI ht hd hF=>wpIn_label ⟨φ,le_refl φ,.normal,ht,hd,hI⟩⟩
    | exit id =>
      simp only [stepF,Option.some.injEq]at hc;subst hc
      exact fun _=>⟨Pres.refl _,fun K w0 φ w a F n hI ht hd hF=>wpIn_exit ⟨φ,le_refl φ,.exit id,ht,hd,hI⟩⟩
    | goto l =>
      simp only [stepF,Option.some.injEq]at hc;subst hc
      exact fun _=>⟨Pres.refl _,fun K w0 φ w a F n hI ht hd hF=>wpIn_goto ⟨φ,le_refl φ,.goto l,ht,hd,hI⟩⟩
    | ret =>
      simp only [stepF,Option.some.injEq]at hc;subst hc
      exact fun _=>⟨Pres.refl _,fun K w0 φ w a F n hI ht hd hF=>wpIn_ret ⟨φ,le_refl φ,.ret,ht,hd,hI⟩⟩
    | scope c=>simp [stepF]at hc
    | refuse w=>simp [stepF]at hc
where
  runOps_ex {rd:Option Nat} {os:Array Oper}:∀(l:List Nat) (s:St) (o:Out),runOps P self rd os l s=some o→∃e s',o=.ex e s'
  | [],s,o,h=>by simp only [runOps,Option.some.injEq]at h;exact ⟨_,_,h.symm⟩
  | i::r,s,o,h=>by
    simp only [runOps,putK_eq,forceH_eq]at h
    split at h
    · exact runOps_ex r _ o h
    · split at h
      · split at h
        · exact runOps_ex r _ o h
        · split at h
          · exact runOps_ex r _ o h
          · simp only [Option.some.injEq]at h;exact ⟨_,_,h.symm⟩
          · cases h
        · split at h
          · exact runOps_ex r _ o h
          · cases h
        · split at h
          · exact runOps_ex r _ o h
          · cases h
        · simp only [Option.some.injEq]at h;exact ⟨_,_,h.symm⟩
        · cases h
      · exact runOps_ex r _ o h
end
def arrEq (a b:Array Value):Bool:=@decide (a=b) (Classical.propDecidable _)
theorem arrEq_eq {a b:Array Value}(h:arrEq a b=true):a=b:=by simpa [arrEq] using h
theorem arrEq_self (a:Array Value):arrEq a a=true:=by simp [arrEq]
def veq0:Value→Value→Bool
  | .bool a,.bool b=>a == b
  | .int k a,.int q b=>decide (k=q)&&decide (a=b)
  | .string a,.string b=>decide (a=b)
  | .pointer none,.pointer none=>true
  | .pointer (some a),.pointer (some b)=>decide (a=b)
  | .slice none l c,.slice none l' c'=>decide (l=l')&&decide (c=c')
  | .slice (some a) l c,.slice (some b) l' c'=>decide (a=b)&&decide (l=l')&&decide (c=c')
  | .map a,.map b=>decide (a=b)
  | .nilIface,.nilIface=>true
  | .nilFunc,.nilFunc=>true
  | .func (.via 0 ⟨[]⟩ 0 true) x ⟨[.slice (some ⟨p,o,none⟩) l c]⟩,.func (.via 0 ⟨[]⟩ 0 true) y ⟨[.slice (some ⟨p',o',none⟩) l' c']⟩=>arrEq x y&&(decide (p=p')&&(decide (o=o')&&(decide (l=l')&&decide (c=c'))))
  | .func (.via 0 ⟨[]⟩ 0 false) x ⟨[.pointer (some ⟨p,o,none⟩)]⟩,.func (.via 0 ⟨[]⟩ 0 false) y ⟨[.pointer (some ⟨p',o',none⟩)]⟩=>arrEq x y&&(decide (p=p')&&decide (o=o'))
  | _,_=>false
theorem veq0_eq {a b:Value}(h:veq0 a b=true):a=b:=by
  unfold veq0 at h
  split at h<;>simp_all
  · exact arrEq_eq h.1
  · exact arrEq_eq h.1
def veqL:List Value→List Value→Bool
  | [],[]=>true
  | a::r,b::s=>veq0 a b&&veqL r s
  | _,_=>false
theorem veqL_eq:∀{a b:List Value},veqL a b=true→a=b
  | [],[],_=>rfl
  | [],_::_,h=>by simp [veqL]at h
  | _::_,[],h=>by simp [veqL]at h
  | a::r,b::s,h=>by
    simp only [veqL,Bool.and_eq_true]at h
    rw [veq0_eq h.1,veqL_eq h.2]
def veq:Value→Value→Bool
  | .agg a,.agg b=>veqL a.toList b.toList
  | .func (.func f) a b,.func (.func g) c d=>decide (f=g)&&veqL a.toList c.toList&&veqL b.toList d.toList
  | a,b=>veq0 a b
theorem veq_eq {a b:Value}(h:veq a b=true):a=b:=by
  unfold veq at h
  split at h
  · rename_i a b
    have:=veqL_eq h
    rw [show a=b from Array.ext' this]
  · rename_i f a b g c d
    simp only [Bool.and_eq_true,decide_eq_true_eq]at h
    rw [h.1.1,show a=c from Array.ext' (veqL_eq h.1.2),show b=d from Array.ext' (veqL_eq h.2)]
  · exact veq0_eq h
def same (x:Option Value)(v:Value):Bool:=match x with | some u=>veq u v | none=>false
theorem same_eq {x:Option Value}{v:Value}(h:same x v=true):x=some v:=by
  unfold same at h
  split at h
  · rw [veq_eq h]
  · cases h
def memOp (o:Op):Bool :=
  match o with
  | .load _ _ | .lookup _ _ _ _ | .convert _ _ _ | .slice _ _ _ _ _ | .call _=>true
  | _=>false
theorem aread_heap {P:Program} {ρ:Operand→Value}{o:Oper}(h:memOp o.op=false) (H H':List Ob):aread P ρ H o=aread P ρ H' o:=by
  unfold aread
  cases ho:o.op<;>first | rfl | (rw [ho]at h;cases h)
structure Rec where
  i:Nat
  o:Oper
  T:List Value
  v:Value
  hb:Hp
  ha:Hp
  loud:Bool
def dloud (P:Program)(self:Self) (ρ:Operand→Value)(h:Hp)(o:Oper):Option (Value×Hp) :=
  match aloud P ρ h o with
  | some (.val v h')=>some (v,h')
  | some (.enter f args)=>(match self (.call f args h) with | some (.ret v h')=>some (v,h') | _=>none)
  | some (.yield l args)=>(match self (.round l args h) with | some (.ret v h')=>some (v,h') | _=>none)
  | _=>none
def consR (r:Rec):Option (List Rec×List Value×Hp)→Option (List Rec×List Value×Hp)
  | some (l,T,h)=>some (r::l,T,h)
  | none=>none
def drun (P:Program)(self:Self)(os:Array Oper):List Nat→List Value→Hp→Option (List Rec×List Value×Hp)
  | [],T,h=>some ([],T,h)
  | i::r,T,h =>
    match os[i]? with
    | none=>none
    | some o =>
      if wantedT os T o then
        match aread P (evalT T) h.bl o with
        | some v=>forceV v fun v=>putK T o.dst v fun T'=>consR ⟨i,o,T,v,h,h,false⟩ (drun P self os r T' h)
        | none =>
          match dloud P self (evalT T) h o with
          | some (v,h')=>forceV v fun v=>putK T o.dst v fun T'=>forceH o.op h' fun h'=>consR ⟨i,o,T,v,h,h',true⟩ (drun P self os r T' h')
          | none=>none
      else putK T o.dst undef fun T'=>consR ⟨i,o,T,undef,h,h,false⟩ (drun P self os r T' h)
def depsOf (o:Oper):List Nat:=(o.after.toList.filter (Region.binds .any)).map (·.on)
def cloOf (clo:List Nat)(ds:List Nat):Nat:=ds.foldl (fun m j=>m|||(1 <<< j)|||clo.getD j 0) 0
def mkClo (os:Array Oper):List Nat→List Nat→List Nat
  | [],clo=>clo
  | i::r,clo=>mkClo os r (clo.set i (cloOf clo (((os[i]?).map depsOf).getD [])))
def cl (clo:List Nat)(i j:Nat):Bool:=(clo.getD i 0).testBit j
def orderOk (clo:List Nat):List Nat→Nat→Bool
  | [],_=>true
  | i::r,seen=>(clo.getD i 0 &&& seen == clo.getD i 0)&&!seen.testBit i&&orderOk clo r (seen|||1 <<< i)
def looks (os:Array Oper)(o:Oper):List Tmp:=o.looksAt os
def unord (clo:List Nat)(i j:Nat):Bool:=!cl clo i j&&!cl clo j i
def pairOk (P:Program)(os:Array Oper)(clo:List Nat)(r q:Rec):Bool :=
  r.i == q.i ||
  ((match r.o.dst with
    | some t=>(q.o.dst != some t)&&(!(looks os q.o).contains t||cl clo q.i r.i||cl clo r.i q.i)
    | none=>true) &&
   (!r.loud||(!q.loud||!unord clo r.i q.i)&&(q.loud||!memOp q.o.op||!unord clo r.i q.i||!wantedT os q.T q.o||(same (aread P (evalT q.T) r.hb.bl q.o) q.v&&same (aread P (evalT q.T) r.ha.bl q.o) q.v))))
def planOk (os:Array Oper)(order clo:List Nat):Bool :=
  (List.range os.size).all (fun i=>order.contains i)&&orderOk clo order 0 &&
  (List.range os.size).all (fun i=>clo.getD i 0 == cloOf clo (((os[i]?).map depsOf).getD []))&&order.all (fun i=>decide (i<os.size))
def dchk (P:Program)(os:Array Oper)(clo:List Nat)(recs:List Rec):Bool:=recs.all fun r=>recs.all fun q=>pairOk P os clo r q
def drawn (P:Program)(self:Self)(_:Option Nat)(_:Nat)(os:Array Oper)(s:St):Option Out :=
  if planOk os (Region.linearise .any os 0) (mkClo os (Region.linearise .any os 0) (List.replicate os.size 0)) then
    match drun P self os (Region.linearise .any os 0) s.t s.h with
    | some (recs,T,h)=>if dchk P os (mkClo os (Region.linearise .any os 0) (List.replicate os.size 0)) recs then some (.ex .normal { s with t:=T,h:=h }) else none
    | none=>none
  else none
section
variable {P:Program} {ρ ρ':Operand→Value}
theorem aread_congr {H:List Ob}{o:Oper}(h:∀x∈o.op.operands,ρ x=ρ' x):aread P ρ H o=aread P ρ' H o:=by
  have he:(∀cs b,o.op≠.select cs b)→execOp ρ o=execOp ρ' o:=fun hs=>execOp_congr o hs h
  have pairs:∀ps:Array (Nat×Operand),(∀x∈ps.map (·.2),ρ x=ρ' x)→(ps.toList.map fun (i,x)=>(i,ρ x))=(ps.toList.map fun (i,x)=>(i,ρ' x)):=fun ps hp =>
    List.map_congr_left fun p hm=>by
      obtain ⟨i,x⟩:=p
      simp only [hp x (Array.mem_map.2 ⟨(i,x),by simpa using hm,rfl⟩)]
  have alls:∀xs:Array Operand,(∀x∈xs,ρ x=ρ' x)→(xs.toList.all fun x=>gr (ρ x))=(xs.toList.all fun x=>gr (ρ' x)):=fun xs hx=>by
    rw [Bool.eq_iff_iff,List.all_eq_true,List.all_eq_true]
    exact ⟨fun hh x hm=>by rw [← hx x (by simpa using hm)];exact hh x hm,fun hh x hm=>by rw [hx x (by simpa using hm)];exact hh x hm⟩
  have pall:∀ps:Array (Nat×Operand),(∀x∈ps.map (·.2),ρ x=ρ' x)→(ps.toList.all fun x=>okO x.2&&notT (ρ x.2))=(ps.toList.all fun x=>okO x.2&&notT (ρ' x.2)):=fun ps hp=>by
    rw [Bool.eq_iff_iff,List.all_eq_true,List.all_eq_true]
    have hq:∀x∈ps.toList,ρ x.2=ρ' x.2:=fun x hm=>hp x.2 (Array.mem_map.2 ⟨x,by simpa using hm,rfl⟩)
    exact ⟨fun hh x hm=>by rw [← hq x hm];exact hh x hm,fun hh x hm=>by rw [hq x hm];exact hh x hm⟩
  obtain ⟨dst,op,type,pos,after,guard⟩:=o
  cases op<;>simp only [Op.operands]at h<;>simp only [aread]
  case build t ps=>rw [pairs ps fun x hx=>h x (by simpa using hx),pall ps fun x hx=>h x (by simpa using hx)]
  case makeFunc fn fi ca =>
    rw [Array.map_congr_left (xs:=fi) fun x hx=>h x (by simp [hx]),Array.map_congr_left (xs:=ca) fun x hx=>h x (by simp [hx])]
  case call c =>
    rw [he (by simp)]
    have ha:∀x∈c.args,ρ x=ρ' x:=fun x hx=>h x (by simp [Call.operands,hx])
    obtain ⟨callee,args,argTypes⟩:=c
    cases callee with
    | value f=>rfl
    | invoke r m=>rfl
    | builtin b =>
      dsimp only
      rw [alls args ha]
      split
      · split
        · rfl
        · split
          · rename_i x t hx _ _
            have:x∈args:=by rw [← Array.mem_toList_iff,hx];simp
            rw [ha x this]
          · rfl
      · rfl
  case slice t x lo hi mx=>rw [he (by simp)];cases lo<;>cases hi<;>cases mx<;>simp_all
  all_goals (first | rfl | (rw [he (by simp)];simp_all;done) | (simp_all;done))
theorem aloud_congr {h0:Hp}{o:Oper}(h:∀x∈o.op.operands,ρ x=ρ' x):aloud P ρ h0 o=aloud P ρ' h0 o:=by
  have pairs:∀ps:Array (Nat×Operand),(∀x∈ps.map (·.2),ρ x=ρ' x)→(ps.toList.map fun (i,x)=>(i,ρ x))=(ps.toList.map fun (i,x)=>(i,ρ' x)):=fun ps hp =>
    List.map_congr_left fun p hm=>by
      obtain ⟨i,x⟩:=p
      simp only [hp x (Array.mem_map.2 ⟨(i,x),by simpa using hm,rfl⟩)]
  have pall:∀ps:Array (Nat×Operand),(∀x∈ps.map (·.2),ρ x=ρ' x)→(ps.toList.all fun x=>okO x.2&&notT (ρ x.2))=(ps.toList.all fun x=>okO x.2&&notT (ρ' x.2)):=fun ps hp=>by
    rw [Bool.eq_iff_iff,List.all_eq_true,List.all_eq_true]
    have hq:∀x∈ps.toList,ρ x.2=ρ' x.2:=fun x hm=>hp x.2 (Array.mem_map.2 ⟨x,by simpa using hm,rfl⟩)
    exact ⟨fun hh x hm=>by rw [← hq x hm];exact hh x hm,fun hh x hm=>by rw [hq x hm];exact hh x hm⟩
  obtain ⟨dst,op,type,pos,after,guard⟩:=o
  cases op<;>simp only [Op.operands]at h<;>simp only [aloud]
  case buildSlice t n ps=>rw [pairs ps fun x hx=>h x (by simpa using hx),pall ps fun x hx=>h x (by simpa using hx)]
  case call c =>
    have ha:∀x∈c.args,ρ x=ρ' x:=fun x hx=>h x (by simp [Call.operands,hx])
    have hm:c.args.map ρ=c.args.map ρ':=Array.map_congr_left fun x hx=>ha x hx
    obtain ⟨callee,args,argTypes⟩:=c
    cases callee with
    | value f =>
      have hf:ρ f=ρ' f:=h f (by simp [Call.operands])
      simp only at hm ⊢
      rw [hf,hm]
    | invoke r m=>rfl
    | builtin b =>
      cases b<;>try rfl
      simp only at ha ⊢
      split
      · rename_i s x ts tx hx ht
        have h1:s∈args:=by rw [← Array.mem_toList_iff,hx];simp
        have h2:x∈args:=by rw [← Array.mem_toList_iff,hx];simp
        rw [ha s h1,ha x h2]
      · rfl
  case defer c =>
    have ha:∀x∈c.args,ρ x=ρ' x:=fun x hx=>h x (by simp [Call.operands,hx])
    have hm:c.args.map ρ=c.args.map ρ':=Array.map_congr_left fun x hx=>ha x hx
    obtain ⟨callee,args,argTypes⟩:=c
    cases callee with
    | value f =>
      have hf:ρ f=ρ' f:=h f (by simp [Call.operands])
      simp only at hm ⊢
      rw [hf,hm]
    | invoke r m=>rfl
    | builtin b=>rfl
  all_goals (first | rfl | (simp_all;done))
theorem dloud_congr {self:Self}{h0:Hp}{o:Oper}(h:∀x∈o.op.operands,ρ x=ρ' x):dloud P self ρ h0 o=dloud P self ρ' h0 o:=by
  unfold dloud;rw [aloud_congr h]
end
theorem lset_set:∀(l:List Value) (n:Nat) (v:Value),lset l n v=l.set n v
  | [],_,_=>rfl
  | _::_,0,_=>rfl
  | x::r,n+1,v=>by simp [lset,lset_set r n v]
theorem lget_lset_ne {l:List Value}{n m:Nat}{v:Value}(h:n≠m):lget (lset l n v) m=lget l m:=by
  rw [lget_eq,lget_eq,lset_eq,Array.getD_eq_getD_getElem?,Array.getD_eq_getD_getElem?,Array.getElem?_setIfInBounds_ne h]
theorem lset_length (l:List Value)(n:Nat)(v:Value):(lset l n v).length=l.length:=by rw [lset_set];simp
theorem lget_lset_congr {l l':List Value}(hl:l.length=l'.length) {n:Nat}{v:Value}:lget (lset l n v) n=lget (lset l' n v) n:=by
  rw [lget_eq,lget_eq,lset_eq,lset_eq,Array.getD_eq_getD_getElem?,Array.getD_eq_getD_getElem?,Array.getElem?_setIfInBounds,Array.getElem?_setIfInBounds]
  simp [hl]
theorem put_length (t:List Value)(dst:Option Tmp)(v:Value):(put t dst v).length=t.length:=by
  cases dst with
  | none=>rfl
  | some d=>exact lset_length _ _ _
theorem put_comm (t:List Value) {x y:Option Tmp}(v u:Value) (h:∀d,x=some d→y≠some d):put (put t x v) y u=put (put t y u) x v:=by
  cases x with
  | none=>rfl
  | some d =>
    cases y with
    | none=>rfl
    | some e =>
      have hne:d≠e:=fun he=>h d rfl (he ▸ rfl)
      simp only [put,lset_set]
      exact List.set_comm _ _ hne
def TD (D:Nat→Bool)(l:List Rec)(T:List Value):List Value:=l.foldl (fun T r=>if D r.i then put T r.o.dst r.v else T) T
def HD (D:Nat→Bool)(l:List Rec)(h:Hp):Hp:=l.foldl (fun h r=>if D r.i&&r.loud then r.ha else h) h
theorem TD_length (D:Nat→Bool):∀(l:List Rec) (T:List Value),(TD D l T).length=T.length
  | [],_=>rfl
  | r::l,T=>by
    show (TD D l (if D r.i then put T r.o.dst r.v else T)).length=_
    rw [TD_length D l]
    split
    · exact put_length _ _ _
    · rfl
theorem TD_cons (D:Nat→Bool)(r:Rec)(l:List Rec)(T:List Value):TD D (r::l) T=TD D l (if D r.i then put T r.o.dst r.v else T):=rfl
theorem HD_cons (D:Nat→Bool)(r:Rec)(l:List Rec)(h:Hp):HD D (r::l) h=HD D l (if D r.i&&r.loud then r.ha else h):=rfl
theorem TD_append (D:Nat→Bool)(l m:List Rec)(T:List Value):TD D (l++m) T=TD D m (TD D l T):=List.foldl_append
theorem HD_append (D:Nat→Bool)(l m:List Rec)(h:Hp):HD D (l++m) h=HD D m (HD D l h):=List.foldl_append
theorem TD_congr {D D':Nat→Bool}:∀{l:List Rec}(T:List Value),(∀r∈l,D r.i=D' r.i)→TD D l T=TD D' l T
  | [],_,_=>rfl
  | r::l,T,h=>by
    rw [TD_cons,TD_cons,h r (by simp)]
    exact TD_congr _ fun r hr=>h r (by simp [hr])
theorem HD_congr {D D':Nat→Bool}:∀{l:List Rec}(h0:Hp),(∀r∈l,r.loud=true→D r.i=D' r.i)→HD D l h0=HD D' l h0
  | [],_,_=>rfl
  | r::l,h0,h=>by
    have e:(D r.i&&r.loud)=(D' r.i&&r.loud):=by
      cases hl:r.loud with
      | false=>simp
      | true=>rw [h r (by simp) hl]
    rw [HD_cons,HD_cons,e]
    exact HD_congr _ fun r hr=>h r (by simp [hr])
theorem TD_get {D D':Nat→Bool}{t:Tmp}:∀{l:List Rec} {T T':List Value},T.length=T'.length→lget T t=lget T' t→(∀r∈l,r.o.dst=some t→D r.i=D' r.i)→lget (TD D l T) t=lget (TD D' l T') t
  | [],_,_,_,h,_=>h
  | r::l,T,T',hl,h,hd=>by
    rw [TD_cons,TD_cons]
    refine TD_get ?_ ?_ fun r hr=>hd r (by simp [hr])
    · split<;>split<;>simp [put_length,hl]
    · by_cases he:r.o.dst=some t
      · rw [hd r (by simp) he,he]
        split
        · exact lget_lset_congr hl
        · exact h
      · have hk:∀X:List Value,lget (put X r.o.dst r.v) t=lget X t:=fun X=>by
          cases hx:r.o.dst with
          | none=>rfl
          | some d=>exact lget_lset_ne fun e=>he (by rw [hx,e])
        split<;>split<;>simp [hk,h]
theorem TD_put {D:Nat→Bool}{dst:Option Tmp}{v:Value}:∀{l:List Rec}{T:List Value},(∀r∈l,∀t,dst=some t→r.o.dst≠some t)→TD D l (put T dst v)=put (TD D l T) dst v
  | [],_,_=>rfl
  | r::l,T,h=>by
    rw [TD_cons,TD_cons,← TD_put fun r hr=>h r (by simp [hr])]
    split
    · rw [put_comm _ _ _ (h r (by simp))]
    · rfl
theorem bit_sub {a b k:Nat}(h:(a &&& b == a)=true) (hk:a.testBit k=true):b.testBit k=true:=by
  have e:a &&& b=a:=by simpa using h
  have:=congrArg (fun x=>x.testBit k) e
  simp only [Nat.testBit_and,hk,Bool.true_and]at this
  exact this
theorem bit_add (m i k:Nat):(m|||1 <<< i).testBit k=(m.testBit k||decide (i=k)):=by
  rw [Nat.testBit_or,Nat.one_shiftLeft,Nat.testBit_two_pow]
theorem orderOk_spec {clo:List Nat}:∀{l:List Nat}{seen:Nat},orderOk clo l seen=true →
    (∀i∈l,seen.testBit i=false)∧l.Pairwise (fun a b=>a≠b∧cl clo a b=false) ∧
    ∀(pre:List Nat) (a:Nat) (post:List Nat),l=pre++a::post→∀k,cl clo a k=true→seen.testBit k=true∨k∈pre
  | [],_,_=>⟨by simp,.nil,by intro pre a post h;simp at h⟩
  | i::r,seen,h=>by
    simp only [orderOk,Bool.and_eq_true,Bool.not_eq_true']at h
    obtain ⟨⟨h1,h2⟩,h3⟩:=h
    obtain ⟨a1,a2,a3⟩:=orderOk_spec h3
    have hb:∀b∈r,seen.testBit b=false∧i≠b:=fun b hb=>by
      have:=a1 b hb
      rw [bit_add]at this
      simpa using this
    refine ⟨?_,?_,?_⟩
    · intro j hj
      rcases List.mem_cons.1 hj with rfl | hj
      · exact h2
      · exact (hb j hj).1
    · refine .cons (fun b hbm=>⟨(hb b hbm).2,?_⟩) a2
      cases hc:cl clo i b with
      | false=>rfl
      | true =>
        have:=bit_sub h1 hc
        rw [(hb b hbm).1]at this;cases this
    · intro pre a post he k hk
      cases pre with
      | nil =>
        simp only [List.nil_append,List.cons.injEq]at he
        obtain ⟨rfl,rfl⟩:=he
        exact .inl (bit_sub h1 hk)
      | cons p pre =>
        simp only [List.cons_append,List.cons.injEq]at he
        obtain ⟨rfl,rfl⟩:=he
        rcases a3 pre a post rfl k hk with h | h
        · rw [bit_add]at h
          simp only [Bool.or_eq_true,decide_eq_true_eq]at h
          rcases h with h | h
          · exact .inl h
          · exact .inr (by simp [h])
        · exact .inr (by simp [h])
theorem fold_bit {clo:List Nat}:∀(ds:List Nat) (m k:Nat),(ds.foldl (fun m j=>m|||(1 <<< j)|||clo.getD j 0) m).testBit k=(m.testBit k||ds.any fun d=>decide (d=k)||cl clo d k)
  | [],m,k=>by simp
  | d::ds,m,k=>by
    rw [List.foldl_cons,fold_bit ds,Nat.testBit_or,bit_add,List.any_cons]
    simp only [cl,Bool.or_assoc]
theorem cloOf_bit {clo ds:List Nat}{k:Nat}:(cloOf clo ds).testBit k=true↔∃d∈ds,d=k∨cl clo d k=true:=by
  unfold cloOf
  rw [fold_bit]
  simp
def RecOk (P:Program)(self:Self)(os:Array Oper)(r:Rec):Prop :=
  (wantedT os r.T r.o=false∧r.v=undef∧r.ha=r.hb∧r.loud=false) ∨
  (wantedT os r.T r.o=true∧aread P (evalT r.T) r.hb.bl r.o=some r.v∧r.ha=r.hb∧r.loud=false) ∨
  (wantedT os r.T r.o=true∧aread P (evalT r.T) r.hb.bl r.o=none∧dloud P self (evalT r.T) r.hb r.o=some (r.v,r.ha)∧r.loud=true)
theorem RecOk.quiet {P:Program}{self:Self}{os:Array Oper}{r:Rec}(h:RecOk P self os r) (hl:r.loud=false):r.ha=r.hb:=by
  rcases h with ⟨_,_,h,_⟩ | ⟨_,_,h,_⟩ | ⟨_,_,_,h⟩
  · exact h
  · exact h
  · rw [hl]at h;cases h
inductive Tr (P:Program) (self:Self) (os:Array Oper):List Rec→List Value→Hp→List Value→Hp→Prop
  | nil (T:List Value) (h:Hp):Tr P self os [] T h T h
  | cons {r:Rec} {l:List Rec} {T':List Value} {h':Hp} (ho:os[r.i]?=some r.o) (hr:RecOk P self os r) (ht:Tr P self os l (put r.T r.o.dst r.v) r.ha T' h'):Tr P self os (r::l) r.T r.hb T' h'
section
variable {P:Program}{self:Self}{os:Array Oper}
theorem consR_some {r:Rec}{y:Option (List Rec×List Value×Hp)}{recs:List Rec}{T:List Value}{h:Hp}(e:consR r y=some (recs,T,h)):∃l,y=some (l,T,h)∧recs=r::l:=by
  cases y with
  | none=>cases e
  | some y =>
    obtain ⟨l,T1,h1⟩:=y
    simp only [consR,Option.some.injEq,Prod.mk.injEq]at e
    obtain ⟨rfl,rfl,rfl⟩:=e
    exact ⟨l,rfl,rfl⟩
theorem drun_tr:∀(l:List Nat) (T:List Value) (h:Hp) (recs:List Rec) (T':List Value) (h':Hp),drun P self os l T h=some (recs,T',h')→Tr P self os recs T h T' h'∧recs.map (·.i)=l
  | [],T,h,recs,T',h',e=>by
    simp only [drun,Option.some.injEq,Prod.mk.injEq]at e
    obtain ⟨rfl,rfl,rfl⟩:=e
    exact ⟨.nil T h,rfl⟩
  | i::r,T,h,recs,T',h',e=>by
    simp only [drun,putK_eq,forceH_eq,forceV_eq]at e
    split at e
    · cases e
    rename_i o ho
    split at e
    · rename_i hw
      split at e
      · rename_i v hv
        obtain ⟨l,e2,rfl⟩:=consR_some e
        obtain ⟨h1,h2⟩:=drun_tr r _ _ _ _ _ e2
        exact ⟨.cons (r:=⟨i,o,T,v,h,h,false⟩) ho (.inr (.inl ⟨hw,hv,rfl,rfl⟩)) h1,by simp [h2]⟩
      · rename_i hv
        split at e
        · rename_i v h1 hv1
          obtain ⟨l,e2,rfl⟩:=consR_some e
          obtain ⟨h1',h2⟩:=drun_tr r _ _ _ _ _ e2
          exact ⟨.cons (r:=⟨i,o,T,v,h,h1,true⟩) ho (.inr (.inr ⟨hw,hv,hv1,rfl⟩)) h1',by simp [h2]⟩
        · cases e
    · rename_i hw
      obtain ⟨l,e2,rfl⟩:=consR_some e
      obtain ⟨h1,h2⟩:=drun_tr r _ _ _ _ _ e2
      exact ⟨.cons (r:=⟨i,o,T,undef,h,h,false⟩) ho (.inl ⟨by simpa using hw,rfl,rfl,rfl⟩) h1,by simp [h2]⟩
theorem dloud_nx {ρ:Operand→Value} {h h':Hp}{o:Oper}{v:Value}(hd:dloud P self ρ h o=some (v,h')) :
    aloud P ρ h o=some (.val v h')∨(∃f args,aloud P ρ h o=some (.enter f args)∧self (.call f args h)=some (.ret v h')) ∨
    ∃l args,aloud P ρ h o=some (.yield l args)∧self (.round l args h)=some (.ret v h'):=by
  unfold dloud at hd
  split at hd
  · rename_i v1 h1 e
    simp only [Option.some.injEq,Prod.mk.injEq]at hd
    obtain ⟨rfl,rfl⟩:=hd
    exact .inl e
  · rename_i f args e
    split at hd
    · rename_i v1 h1 e1
      simp only [Option.some.injEq,Prod.mk.injEq]at hd
      obtain ⟨rfl,rfl⟩:=hd
      exact .inr (.inl ⟨f,args,e,e1⟩)
    · cases hd
  · rename_i l args e
    split at hd
    · rename_i v1 h1 e1
      simp only [Option.some.injEq,Prod.mk.injEq]at hd
      obtain ⟨rfl,rfl⟩:=hd
      exact .inr (.inr ⟨l,args,e,e1⟩)
    · cases hd
  · cases hd
theorem RecOk.pres (hs:SelfOk P self) {r:Rec}(h:RecOk P self os r) (hb:r.hb.base≤r.hb.bl.length):Pres r.hb r.ha:=by
  rcases h with ⟨_,_,h,_⟩ | ⟨_,_,h,_⟩ | ⟨_,hn,h,_⟩
  · rw [h];exact Pres.refl _
  · rw [h];exact Pres.refl _
  · rcases dloud_nx h with h | ⟨f,args,_,h⟩ | ⟨l,args,_,h⟩
    · exact runOps_sound.aop_pres hb (by unfold aop;rw [hn];exact h)
    · exact (hs _ _ h hb).1
    · exact (hs _ _ h hb).1
theorem Tr.pres (hs:SelfOk P self) {l:List Rec} {T T':List Value} {h h':Hp}(ht:Tr P self os l T h T' h'):h.base≤h.bl.length→Pres h h'∧∀r∈l,r.hb.base≤r.hb.bl.length:=by
  induction ht with
  | nil=>intro _;exact ⟨Pres.refl _,by simp⟩
  | cons ho hr ht ih =>
    intro hb
    have hp:=hr.pres hs hb
    obtain ⟨h1,h2⟩:=ih (by rw [hp.base];exact Nat.le_trans hb hp.len)
    refine ⟨hp.trans h1,?_⟩
    intro q hq
    rcases List.mem_cons.1 hq with rfl | hq
    · exact hb
    · exact h2 q hq
theorem Tr.recs {l:List Rec} {T T':List Value} {h h':Hp}(ht:Tr P self os l T h T' h'):∀r∈l,os[r.i]?=some r.o∧RecOk P self os r:=by
  induction ht with
  | nil=>simp
  | cons ho hr ht ih =>
    intro q hq
    rcases List.mem_cons.1 hq with rfl | hq
    · exact ⟨ho,hr⟩
    · exact ih q hq
theorem Tr.split {pre:List Rec}:∀{q:Rec}{post:List Rec} {T T':List Value} {h h':Hp},Tr P self os (pre++q::post) T h T' h'→q.T=TD (fun _=>true) pre T∧q.hb=HD (fun _=>true) pre h:=by
  induction pre with
  | nil=>intro q post T T' h h' ht;cases ht;exact ⟨rfl,rfl⟩
  | cons r pre ih =>
    intro q post T T' h h' ht
    cases ht with
    | cons ho hr ht =>
      obtain ⟨h1,h2⟩:=ih ht
      refine ⟨h1,?_⟩
      rw [h2,HD_cons]
      cases hl:r.loud with
      | true=>simp
      | false=>simp [hr.quiet hl]
theorem Tr.last {l:List Rec} {T T':List Value} {h h':Hp}(ht:Tr P self os l T h T' h'):T'=TD (fun _=>true) l T∧h'=HD (fun _=>true) l h:=by
  induction ht with
  | nil=>exact ⟨rfl,rfl⟩
  | @cons r l T' h' ho hr ht ih =>
    refine ⟨ih.1,?_⟩
    rw [ih.2,HD_cons]
    cases hl:r.loud with
    | true=>simp
    | false=>simp [hr.quiet hl]
theorem TD_none {D:Nat→Bool}:∀{l:List Rec}(T:List Value),(∀r∈l,D r.i=false)→TD D l T=T
  | [],_,_=>rfl
  | r::l,T,h=>by
    rw [TD_cons,h r (by simp)]
    exact TD_none _ fun r hr=>h r (by simp [hr])
theorem HD_none {D:Nat→Bool}:∀{l:List Rec}(h0:Hp),(∀r∈l,r.loud=true→D r.i=false)→HD D l h0=h0
  | [],_,_=>rfl
  | r::l,h0,h=>by
    rw [HD_cons]
    have e:(D r.i&&r.loud)=false:=by
      cases hl:r.loud with
      | false=>simp
      | true=>rw [h r (by simp) hl];rfl
    rw [e]
    exact HD_none _ fun r hr=>h r (by simp [hr])
theorem HD_last {D:Nat→Bool}:∀(l:List Rec) (h:Hp),HD D l h=h∨∃r∈l,r.loud=true∧D r.i=true∧HD D l h=r.ha
  | [],_=>.inl rfl
  | r::l,h=>by
    rw [HD_cons]
    rcases HD_last l (if D r.i&&r.loud then r.ha else h) with e | ⟨q,h1,h2,h3,h4⟩
    · rw [e]
      by_cases hc:(D r.i&&r.loud)=true
      · rw [if_pos hc]
        simp only [Bool.and_eq_true]at hc
        exact .inr ⟨r,by simp,hc.2,hc.1,rfl⟩
      · rw [if_neg hc];exact .inl rfl
    · exact .inr ⟨q,by simp [h1],h2,h3,h4⟩
theorem HD_two {D D':Nat→Bool}{l:List Rec} {T T':List Value} {h h':Hp}(ht:Tr P self os l T h T' h') :
    l.Pairwise (fun a b=>a.loud=true→b.loud=true→(D b.i=true→D a.i=true)∧(D' b.i=true→D' a.i=true)) →
    HD D l h=HD D' l h∨∃r∈l,r.loud=true∧D r.i≠D' r.i∧(HD D l h=r.ha∨HD D l h=r.hb):=by
  induction ht with
  | nil=>intro _;exact .inl rfl
  | @cons r l T' h' ho hr ht ih =>
    intro hp
    rw [List.pairwise_cons]at hp
    obtain ⟨h1,h2⟩:=hp
    rw [HD_cons,HD_cons]
    have lift:∀X Y:Hp,(X=Y∨∃q∈l,q.loud=true∧D q.i≠D' q.i∧(X=q.ha∨X=q.hb))→(X=Y∨∃q∈r::l,q.loud=true∧D q.i≠D' q.i∧(X=q.ha∨X=q.hb)):=fun X Y hh=>by
      rcases hh with hh | ⟨q,q1,q2⟩
      · exact .inl hh
      · exact .inr ⟨q,by simp [q1],q2⟩
    cases hl:r.loud with
    | false =>
      rw [hr.quiet hl]at ih
      simpa [hl] using lift _ _ (ih h2)
    | true =>
      have n1:D r.i=false→∀q∈l,q.loud=true→D q.i=false:=fun hd q hq ql=>by
        cases hc:D q.i with
        | false=>rfl
        | true=>rw [((h1 q hq hl ql).1 hc)]at hd;cases hd
      have n2:D' r.i=false→∀q∈l,q.loud=true→D' q.i=false:=fun hd q hq ql=>by
        cases hc:D' q.i with
        | false=>rfl
        | true=>rw [((h1 q hq hl ql).2 hc)]at hd;cases hd
      cases hd:D r.i with
      | false =>
        cases hd':D' r.i with
        | false =>
          left
          simp only [Bool.false_and,Bool.false_eq_true,if_false]
          rw [HD_none _ (n1 hd),HD_none _ (n2 hd')]
        | true =>
          right
          refine ⟨r,by simp,hl,by rw [hd,hd'];simp,.inr ?_⟩
          simp only [Bool.false_and,Bool.false_eq_true,if_false]
          rw [HD_none _ (n1 hd)]
      | true =>
        simp only [Bool.and_self,if_true]
        cases hd':D' r.i with
        | true =>
          simp only [Bool.and_self,if_true]
          exact lift _ _ (ih h2)
        | false =>
          right
          rcases HD_last (D:=D) l r.ha with e | ⟨q,q1,q2,q3,q4⟩
          · exact ⟨r,by simp,hl,by rw [hd,hd'];simp,.inl e⟩
          · exact ⟨q,by simp [q1],q2,by rw [q3,n2 hd' q q1 q2];simp,.inl q4⟩
end
structure Plan (P:Program) (sf:Self) (os:Array Oper) (clo:List Nat) (recs:List Rec) (T0:List Value) (h0:Hp) (T1:List Value) (h1:Hp):Prop where
  tr:Tr P sf os recs T0 h0 T1 h1
  pw:recs.Pairwise (fun a b=>a.i≠b.i∧cl clo a.i b.i=false)
  pre:∀(pre:List Rec) (q:Rec) (post:List Rec),recs=pre++q::post→∀k,cl clo q.i k=true→∃r∈pre,r.i=k
  all:∀i,i<os.size→∃r∈recs,r.i=i
  clos:∀i,i<os.size→∀k,cl clo i k=true↔∃d∈((os[i]?).map depsOf).getD [],d=k∨cl clo d k=true
  lt:∀r∈recs,r.i<os.size
  pair:∀r∈recs,∀q∈recs,pairOk P os clo r q=true
theorem plan_of {P:Program}{self:Self}{os:Array Oper}{order clo:List Nat}{recs:List Rec}{T0 T1:List Value}{h0 h1:Hp}
    (hp:planOk os order clo=true) (hr:drun P self os order T0 h0=some (recs,T1,h1)) (hc:dchk P os clo recs=true):Plan P self os clo recs T0 h0 T1 h1:=by
  simp only [planOk,Bool.and_eq_true,List.all_eq_true,List.mem_range,beq_iff_eq,decide_eq_true_eq,List.contains_iff_mem]at hp
  obtain ⟨⟨⟨p1,p2⟩,p3⟩,p4⟩:=hp
  obtain ⟨t1,rfl⟩:=drun_tr _ _ _ _ _ _ hr
  obtain ⟨o1,o2,o3⟩:=orderOk_spec p2
  refine ⟨t1,?_,?_,?_,?_,?_,?_⟩
  · rw [List.pairwise_map]at o2;exact o2
  · intro pre q post e k hk
    rcases o3 (pre.map (·.i)) q.i (post.map (·.i)) (by rw [e];simp) k hk with h | h
    · simp at h
    · obtain ⟨r,hr,e⟩:=List.mem_map.1 h
      exact ⟨r,hr,e⟩
  · intro i hi
    obtain ⟨r,hr,e⟩:=List.mem_map.1 (p1 i hi)
    exact ⟨r,hr,e⟩
  · intro i hi k
    unfold cl
    rw [p3 i hi,cloOf_bit]
    exact Iff.rfl
  · intro r hr
    exact p4 r.i (List.mem_map.2 ⟨r,hr,rfl⟩)
  · intro r hr q hq
    simp only [dchk,List.all_eq_true]at hc
    exact hc r hr q hq
def Good (clo:List Nat)(D:Nat→Bool)(q:Nat):Prop:=(∀j k,D j=true→cl clo j k=true→D k=true)∧D q=false∧∀k,cl clo q k=true→D k=true
theorem Good.agree {clo:List Nat} {D D':Nat→Bool}{q r:Nat}(h:Good clo D q) (h':Good clo D' q) (hc:cl clo q r=true∨cl clo r q=true):D r=D' r:=by
  rcases hc with hc | hc
  · rw [h.2.2 r hc,h'.2.2 r hc]
  · have f:∀{D:Nat→Bool},Good clo D q→D r=false:=fun {D} h=>by
      cases e:D r with
      | false=>rfl
      | true=>have:=h.1 r q e hc;rw [h.2.1]at this;cases this
    rw [f h,f h']
section
variable {P:Program}{self:Self}{os:Array Oper}{clo:List Nat}{recs:List Rec}{T0 T1:List Value}{h0 h1:Hp}
def before (pre:List Rec)(i:Nat):Bool:=pre.any fun r=>r.i == i
theorem before_iff {pre:List Rec}{i:Nat}:before pre i=true↔∃r∈pre,r.i=i:=by simp [before]
theorem Plan.good {pre post:List Rec}{q:Rec}(p:Plan P self os clo recs T0 h0 T1 h1) (e:recs=pre++q::post):Good clo (before pre) q.i:=by
  refine ⟨?_,?_,?_⟩
  · intro j k hj hk
    obtain ⟨r,hr,rfl⟩:=before_iff.1 hj
    obtain ⟨p1,p2,rfl⟩:=List.append_of_mem hr
    obtain ⟨s,hs,rfl⟩:=p.pre p1 r (p2++q::post) (by rw [e];simp) k hk
    exact before_iff.2 ⟨s,by simp [hs],rfl⟩
  · have:=p.pw
    rw [e,List.pairwise_append]at this
    cases hb:before pre q.i with
    | false=>rfl
    | true =>
      obtain ⟨r,hr,he⟩:=before_iff.1 hb
      exact absurd he (this.2.2 r hr q (by simp)).1
  · intro k hk
    obtain ⟨s,hs,rfl⟩:=p.pre pre q post e k hk
    exact before_iff.2 ⟨s,hs,rfl⟩
theorem Plan.other {pre post:List Rec}{q:Rec}(p:Plan P self os clo recs T0 h0 T1 h1) (e:recs=pre++q::post):(∀r∈pre,r.i≠q.i)∧(∀r∈post,q.i≠r.i)∧∀r∈pre,∀s∈post,r.i≠s.i:=by
  have:=p.pw
  rw [e,List.pairwise_append,List.pairwise_cons]at this
  obtain ⟨_,⟨h2,_⟩,h3⟩:=this
  exact ⟨fun r hr=>(h3 r hr q (by simp)).1,fun r hr=>(h2 r hr).1,fun r hr s hs=>(h3 r hr s (by simp [hs])).1⟩
theorem Plan.atT {pre post:List Rec}{q:Rec}(p:Plan P self os clo recs T0 h0 T1 h1) (e:recs=pre++q::post):TD (before pre) recs T0=q.T:=by
  obtain ⟨o1,o2,o3⟩:=p.other e
  have ht:=p.tr
  rw [e]at ht ⊢
  rw [ht.split.1,TD_append,TD_cons,(p.good e).2.1,TD_congr (D:=before pre) (D':=fun _=>true) T0 fun r hr=>before_iff.2 ⟨r,hr,rfl⟩]
  refine TD_none _ fun r hr=>?_
  cases hb:before pre r.i with
  | false=>rfl
  | true =>
    obtain ⟨s,hs,he⟩:=before_iff.1 hb
    exact absurd he (o3 s hs r hr)
theorem Plan.atH {pre post:List Rec}{q:Rec}(p:Plan P self os clo recs T0 h0 T1 h1) (e:recs=pre++q::post):HD (before pre) recs h0=q.hb:=by
  obtain ⟨o1,o2,o3⟩:=p.other e
  have ht:=p.tr
  rw [e]at ht ⊢
  rw [ht.split.2,HD_append,HD_cons,(p.good e).2.1,HD_congr (D:=before pre) (D':=fun _=>true) h0 fun r hr _=>before_iff.2 ⟨r,hr,rfl⟩]
  refine HD_none _ fun r hr _=>?_
  cases hb:before pre r.i with
  | false=>rfl
  | true =>
    obtain ⟨s,hs,he⟩:=before_iff.1 hb
    exact absurd he (o3 s hs r hr)
theorem not_unord {i j:Nat}(h:(!unord clo i j)=true):cl clo i j=true∨cl clo j i=true:=by
  unfold unord at h
  cases h1:cl clo i j with
  | true=>exact .inl rfl
  | false =>
    cases h2:cl clo j i with
    | true=>exact .inr rfl
    | false=>rw [h1,h2]at h;cases h
theorem Plan.look {D:Nat→Bool}{pre post:List Rec}{q:Rec}(p:Plan P self os clo recs T0 h0 T1 h1) (e:recs=pre++q::post) (hD:Good clo D q.i) {t:Tmp}(ht:t∈q.o.looksAt os):lget (TD D recs T0) t=lget q.T t:=by
  rw [← p.atT e]
  refine TD_get rfl rfl fun r hr hd=>?_
  have hp:=p.pair r hr q (by rw [e];simp)
  simp only [pairOk,hd,Bool.or_eq_true,beq_iff_eq,Bool.and_eq_true]at hp
  rcases hp with hp | hp
  · rw [hp,hD.2.1,(p.good e).2.1]
  · refine hD.agree (p.good e) ?_
    rcases hp.1.2 with (h | h) | h
    · rw [show (looks os q.o).contains t=true from by rw [List.contains_iff_mem];exact ht]at h;cases h
    · exact .inl h
    · exact .inr h
theorem Plan.eval {D:Nat→Bool}{pre post:List Rec}{q:Rec}(p:Plan P self os clo recs T0 h0 T1 h1) (e:recs=pre++q::post) (hD:Good clo D q.i):∀x∈q.o.op.operands,evalT (TD D recs T0) x=evalT q.T x:=by
  intro x hx
  cases x with
  | tmp t=>exact p.look e hD (List.mem_append_left _ (List.mem_filterMap.2 ⟨.tmp t,by simpa using hx,rfl⟩))
  | const v=>rfl
  | global g=>rfl
  | func f=>rfl
theorem Plan.wanted {D:Nat→Bool}{pre post:List Rec}{q:Rec}(p:Plan P self os clo recs T0 h0 T1 h1) (e:recs=pre++q::post) (hD:Good clo D q.i):wantedT os (TD D recs T0) q.o=wantedT os q.T q.o:=by
  unfold wantedT
  cases hg:q.o.guard with
  | none=>rfl
  | some g =>
    obtain ⟨j,want⟩:=g
    simp only
    cases hd:(os[j]?).bind (·.dst) with
    | none=>rfl
    | some d =>
      simp only
      rw [p.look e hD (t:=d) (List.mem_append_right _ (by simp [hg,hd]))]
theorem Plan.nextT {D D':Nat→Bool}{pre post:List Rec}{q:Rec}(p:Plan P self os clo recs T0 h0 T1 h1) (e:recs=pre++q::post) (hD:D q.i=false) (h1':D' q.i=true) (h2:∀j,j≠q.i→D' j=D j):TD D' recs T0=put (TD D recs T0) q.o.dst q.v:=by
  obtain ⟨o1,o2,o3⟩:=p.other e
  have hpair:∀r∈post,∀t,q.o.dst=some t→r.o.dst≠some t:=fun r hr t ht=>by
    have hp:=p.pair q (by rw [e];simp) r (by rw [e];simp [hr])
    simp only [pairOk,ht,Bool.or_eq_true,beq_iff_eq,Bool.and_eq_true]at hp
    rcases hp with hp | hp
    · exact absurd hp (o2 r hr)
    · simpa using hp.1.1
  rw [e,TD_append,TD_append,TD_cons,TD_cons,hD,h1',TD_congr (D:=D') (D':=D) T0 fun r hr=>h2 _ (o1 r hr),TD_congr (D:=D') (D':=D) _ fun r hr=>h2 _ (Ne.symm (o2 r hr))]
  simp only [if_true,Bool.false_eq_true,if_false]
  exact TD_put hpair
theorem Plan.nextQuiet {D D':Nat→Bool}{q:Rec}(p:Plan P self os clo recs T0 h0 T1 h1) (hq:q∈recs) (hl:q.loud=false) (h2:∀j,j≠q.i→D' j=D j):HD D' recs h0=HD D recs h0:=by
  obtain ⟨pre,post,e⟩:=List.append_of_mem hq
  obtain ⟨o1,o2,o3⟩:=p.other e
  refine HD_congr _ fun r hr rl=>h2 _ fun he=>?_
  rw [e]at hr
  rcases List.mem_append.1 hr with hr | hr
  · exact o1 r hr he
  · rcases List.mem_cons.1 hr with rfl | hr
    · rw [hl]at rl;cases rl
    · exact o2 r hr he.symm
theorem Plan.loudComp {q r:Rec}(p:Plan P self os clo recs T0 h0 T1 h1) (hq:q∈recs) (hr:r∈recs) (hlq:q.loud=true) (hlr:r.loud=true):r.i=q.i∨cl clo q.i r.i=true∨cl clo r.i q.i=true:=by
  have hp:=p.pair r hr q hq
  simp only [pairOk,hlq,hlr,Bool.or_eq_true,beq_iff_eq,Bool.and_eq_true]at hp
  rcases hp with hp | hp
  · exact .inl hp
  · refine .inr ?_
    have:=hp.2
    simp at this
    exact (not_unord (by simpa using this)).symm
theorem Plan.atLoud {D:Nat→Bool}{pre post:List Rec}{q:Rec}(p:Plan P self os clo recs T0 h0 T1 h1) (e:recs=pre++q::post) (hD:Good clo D q.i) (hl:q.loud=true):HD D recs h0=q.hb:=by
  have hq:q∈recs:=by rw [e];simp
  rw [← p.atH e]
  refine HD_congr _ fun r hr rl=>?_
  rcases p.loudComp hq hr hl rl with h | h
  · rw [h,hD.2.1,(p.good e).2.1]
  · exact hD.agree (p.good e) h
theorem Plan.nextLoud {D D':Nat→Bool}{pre post:List Rec}{q:Rec}(p:Plan P self os clo recs T0 h0 T1 h1) (e:recs=pre++q::post) (hD:Good clo D q.i) (hl:q.loud=true) (h1':D' q.i=true) (h2:∀j,j≠q.i→D' j=D j):HD D' recs h0=q.ha:=by
  have hq:q∈recs:=by rw [e];simp
  obtain ⟨o1,o2,o3⟩:=p.other e
  have hpw:=p.pw
  rw [e,List.pairwise_append,List.pairwise_cons]at hpw
  have hpost:∀r∈post,r.loud=true→D' r.i=false:=fun r hr rl=>by
    rw [h2 _ (Ne.symm (o2 r hr))]
    rcases p.loudComp hq (by rw [e];simp [hr]) hl rl with h | h | h
    · exact absurd h.symm (o2 r hr)
    · rw [(hpw.2.1.1 r hr).2]at h;cases h
    · cases hc:D r.i with
      | false=>rfl
      | true=>have:=hD.1 _ _ hc h;rw [hD.2.1]at this;cases this
  rw [e,HD_append,HD_cons,h1',hl]
  exact HD_none _ hpost
theorem Plan.read {D:Nat→Bool}{pre post:List Rec}{q:Rec}(p:Plan P self os clo recs T0 h0 T1 h1) (e:recs=pre++q::post) (hD:Good clo D q.i) (hl:q.loud=false) (hw:wantedT os q.T q.o=true) (ha:aread P (evalT q.T) q.hb.bl q.o=some q.v):aread P (evalT q.T) (HD D recs h0).bl q.o=some q.v:=by
  cases hm:memOp q.o.op with
  | false=>rw [aread_heap hm _ q.hb.bl];exact ha
  | true =>
    have hq:q∈recs:=by rw [e];simp
    have hg:=p.good e
    have hpw:recs.Pairwise (fun a b=>a.loud=true→b.loud=true→(D b.i=true→D a.i=true)∧(before pre b.i=true→before pre a.i=true)):=by
      refine List.Pairwise.imp_of_mem ?_ p.pw
      intro a b ha hb hab al bl
      have hc:cl clo b.i a.i=true:=by
        rcases p.loudComp ha hb al bl with h | h | h
        · exact absurd h.symm hab.1
        · rw [hab.2]at h;cases h
        · exact h
      exact ⟨fun h=>hD.1 _ _ h hc,fun h=>hg.1 _ _ h hc⟩
    rcases HD_two (D:=D) (D':=before pre) p.tr hpw with h | ⟨r,hr,rl,hne,hh⟩
    · rw [h,p.atH e];exact ha
    · have hp:=p.pair r hr q hq
      simp only [pairOk,Bool.or_eq_true,beq_iff_eq,Bool.and_eq_true]at hp
      rcases hp with hp | hp
      · exact absurd (by rw [hp,hD.2.1,hg.2.1]) hne
      · have hu:unord clo r.i q.i=true:=by
          cases hu:unord clo r.i q.i with
          | true=>rfl
          | false=>exact absurd (hD.agree hg (not_unord (by rw [hu];rfl)).symm) hne
        have h2:=hp.2
        simp only [rl,hl,hm,hu,hw]at h2
        simp at h2
        rcases hh with hh | hh
        · rw [hh];exact same_eq h2.2
        · rw [hh];exact same_eq h2.1
end
section
variable {P:Program}{self:Self}{os:Array Oper}{clo:List Nat}{recs:List Rec}{T0 T1:List Value}{h0 h1:Hp}
def Shut (clo:List Nat)(D:Nat→Bool):Prop:=∀j k,D j=true→cl clo j k=true→D k=true
theorem Plan.ready {listed:Array Bool}{i:Nat}(p:Plan P self os clo recs T0 h0 T1 h1) (hs:Shut clo fun j=>listed.getD j false) (hz:listed.size=os.size) (hi:i∈Region.ready .any os listed) :
    i<os.size∧Good clo (fun j=>listed.getD j false) i:=by
  rw [mem_ready]at hi
  obtain ⟨hu,o,ho,hall⟩:=hi
  have hlt:i<os.size:=(Array.getElem?_eq_some_iff.1 ho).1
  refine ⟨hlt,hs,?_,?_⟩
  · have:i<listed.size:=by omega
    simp only [Array.getD_eq_getD_getElem?,Array.getElem?_eq_getElem this,Option.getD_some]at hu ⊢
    exact hu
  · intro k hk
    obtain ⟨d,hd,h⟩:=(p.clos i hlt k).1 hk
    rw [ho]at hd
    simp only [Option.map_some,Option.getD_some,depsOf,List.mem_map,List.mem_filter,Array.mem_toList_iff]at hd
    obtain ⟨e,⟨he,hb⟩,rfl⟩:=hd
    have hl:=hall e he hb
    rcases h with rfl | h
    · exact hl
    · exact hs _ _ hl h
theorem Plan.done {listed:Array Bool}(p:Plan P self os clo recs T0 h0 T1 h1) (hz:listed.size=os.size) (hr:Region.ready .any os listed=[]):∀(pre post:List Rec),recs=pre++post→∀r∈pre,listed.getD r.i false=true:=by
  intro pre
  induction hn:pre.length generalizing pre with
  | zero=>intro post e r hr;rw [List.length_eq_zero_iff]at hn;subst hn;cases hr
  | succ n ih =>
    intro post e r hrm
    rcases List.eq_nil_or_concat pre with rfl | ⟨pre',q,rfl⟩
    · cases hrm
    rw [List.concat_eq_append]at *
    simp only [List.length_append,List.length_cons,List.length_nil,Nat.zero_add,Nat.add_right_cancel_iff]at hn
    have e':recs=pre'++q::post:=by rw [e];simp
    have hpre:=ih pre' hn (q::post) e'
    rcases List.mem_append.1 hrm with hrm | hrm
    · exact hpre r hrm
    · simp only [List.mem_cons,List.not_mem_nil,or_false]at hrm
      subst hrm
      cases hl:listed.getD r.i false with
      | true=>rfl
      | false =>
        have hm:r∈recs:=by rw [e'];simp
        have hlt:=p.lt r hm
        have:r.i∈Region.ready .any os listed:=by
          rw [mem_ready]
          refine ⟨?_,r.o,(p.tr.recs r hm).1,?_⟩
          · have:r.i<listed.size:=by omega
            simp only [Array.getD_eq_getD_getElem?,Array.getElem?_eq_getElem this,Option.getD_some]at hl ⊢
            exact hl
          · intro ed hed hb
            obtain ⟨s,hs,he⟩:=p.pre pre' r post e' ed.on ((p.clos r.i hlt ed.on).2 ⟨ed.on,by
              rw [(p.tr.recs r hm).1]
              simp only [Option.map_some,Option.getD_some,depsOf,List.mem_map,List.mem_filter,Array.mem_toList_iff]
              exact ⟨ed,⟨hed,hb⟩,rfl⟩,.inl rfl⟩)
            rw [← he];exact hpre s hs
        rw [hr]at this;cases this
theorem Plan.run (hN:NoNG P)(hs:SelfOk P self)(p:Plan P self os clo recs T0 h0 T1 h1)(hb:h0.base≤h0.bl.length) {rd:Option Nat}{d:List Deferred}{K:Nat→Prop}{w0:World}{F:Fence}{n:Nat}{Q:Exit→Act→World→Prop} :
    ∀(fuel:Nat) (listed:Array Bool) (U:List Nat) (φ:Phi) (a:Act) (w:World),listed.size=os.size→Shut clo (fun j=>listed.getD j false) →
      (∀i,i<os.size→listed.getD i false=false→i∈U)→U.length≤fuel →
      Inv K w0 φ (HD (fun j=>listed.getD j false) recs h0).bl w→VRs φ (TD (fun j=>listed.getD j false) recs T0).toArray a.tmps→DRs φ d a.defers→FenceOk φ rd F →
      (∀x a w',CodeR K w0 φ .normal ⟨T1,d,h1⟩ x a w'→Q x a w')→wpAnyIn F n P .any os Q fuel listed a w:=by
  intro fuel
  have fin:∀(listed:Array Bool) (φ:Phi) (a:Act) (w:World),listed.size=os.size →
      Inv K w0 φ (HD (fun j=>listed.getD j false) recs h0).bl w→VRs φ (TD (fun j=>listed.getD j false) recs T0).toArray a.tmps→DRs φ d a.defers →
      (∀x a w',CodeR K w0 φ .normal ⟨T1,d,h1⟩ x a w'→Q x a w')→Region.ready .any os listed=[]→Q .normal a w:=by
    intro listed φ a w hz hI ht hd hQ hr
    have hall:=p.done hz hr recs [] (by simp)
    obtain ⟨l1,l2⟩:=p.tr.last
    rw [TD_congr (D':=fun _=>true) T0 hall,← l1]at ht
    rw [HD_congr (D':=fun _=>true) h0 fun r hr _=>hall r hr,← l2]at hI
    exact hQ _ _ _ ⟨φ,le_refl φ,.normal,ht,hd,hI⟩
  induction fuel with
  | zero =>
    intro listed U φ a w hz hsh hU hf hI ht hd hF hQ
    have hn:Region.ready .any os listed=[]:=by
      rw [List.eq_nil_iff_forall_not_mem]
      intro i hi
      obtain ⟨hlt,_,hg,_⟩:=p.ready hsh hz hi
      have:=hU i hlt hg
      rw [List.length_eq_zero_iff.1 (Nat.le_zero.1 hf)]at this
      cases this
    exact ⟨hn,fin listed φ a w hz hI ht hd hQ hn⟩
  | succ fuel ih =>
    intro listed U φ a w hz hsh hU hf hI ht hd hF hQ
    refine ⟨fin listed φ a w hz hI ht hd hQ,?_⟩
    intro i hi
    obtain ⟨hlt,hg⟩:=p.ready hsh hz hi
    obtain ⟨q,hq,rfl⟩:=p.all i hlt
    obtain ⟨pre,post,e⟩:=List.append_of_mem hq
    obtain ⟨ho,hrec⟩:=p.tr.recs q hq
    have hlt':q.i<listed.size:=by omega
    have d1:(listed.setIfInBounds q.i true).getD q.i false=true:=by simp [hlt']
    have d2:∀j,j≠q.i→(listed.setIfInBounds q.i true).getD j false=listed.getD j false:=fun j hj=>getD_set_ne false (Ne.symm hj)
    have nT:=p.nextT (D:=fun j=>listed.getD j false) (D':=fun j=>(listed.setIfInBounds q.i true).getD j false) e hg.2.1 d1 d2
    have hsh':Shut clo fun j=>(listed.setIfInBounds q.i true).getD j false:=by
      intro j k hj hk
      by_cases hjq:j=q.i
      · subst hjq
        exact getD_set_true (hg.2.2 k hk)
      · simp only [d2 j hjq]at hj
        exact getD_set_true (hsh j k hj hk)
    have goOn:∀(φ':Phi) (a':Act) (w':World),le φ φ'→Inv K w0 φ' (HD (fun j=>(listed.setIfInBounds q.i true).getD j false) recs h0).bl w' →
        VRs φ' (put (TD (fun j=>listed.getD j false) recs T0) q.o.dst q.v).toArray a'.tmps→DRs φ' d a'.defers →
        wpAnyIn F n P .any os Q fuel (listed.setIfInBounds q.i true) a' w':=by
      intro φ' a' w' hle hI' ht' hd'
      rw [← nT]at ht'
      refine ih _ (U.erase q.i) φ' a' w' (by simp [hz]) hsh' ?_ ?_ hI' ht' hd' (hF.mono hle) (fun x a w'' hc=>hQ x a w'' (hc.mono hle))
      · intro j hj hl
        have hne:j≠q.i:=fun he=>by rw [he,d1]at hl;cases hl
        rw [d2 j hne]at hl
        exact (List.mem_erase_of_ne hne).2 (hU j hj hl)
      · have:=List.length_erase_of_mem (hU q.i hlt hg.2.1)
        omega
    have hwe:=p.wanted e hg
    simp only [wpOpIn,ho]
    rw [wanted_eq ht,hwe]
    rcases hrec with ⟨r1,r2,r3,r4⟩ | ⟨r1,r2,r3,r4⟩ | ⟨r1,r2,r3,r4⟩
    · rw [if_neg (by rw [r1];simp)]
      refine ⟨fun f _=>hF.fn f,?_⟩
      refine goOn φ _ w (le_refl φ) ?_ ?_ ?_
      · rw [p.nextQuiet hq r4 d2];exact hI
      · rw [r2];exact vrs_put ht (VR.undef φ) _
      · rw [put_defers];exact hd
    · rw [if_pos r1]
      refine ⟨fun f _=>hF.fn f,?_⟩
      have ha:=p.read e hg r4 r1 r2
      rw [← aread_congr (p.eval e hg)]at ha
      have hnd:∀c,q.o.op≠.defer c:=fun c hc=>by
        unfold aread at ha
        rw [hc]at ha
        simp at ha
      obtain ⟨v',hr,hv⟩:=aread_sound hI (evs_t ht) ha
      rw [sem_plain (.inl hnd),hr]
      refine goOn φ _ w (le_refl φ) ?_ (vrs_put ht hv _) ?_
      · rw [p.nextQuiet hq r4 d2];exact hI
      · rw [put_defers];exact hd
    · rw [if_pos r1]
      refine ⟨fun f _=>hF.fn f,?_⟩
      have hH:=p.atLoud e hg r4
      have hH':=p.nextLoud (D':=fun j=>(listed.setIfInBounds q.i true).getD j false) e hg r4 d1 d2
      rw [hH]at hI
      rw [hH']at goOn
      have hqb:q.hb.base≤q.hb.bl.length:=(p.tr.pres hs hb).2 q hq
      rw [← aread_congr (p.eval e hg)]at r2
      rw [← dloud_congr (p.eval e hg)]at r3
      have hop:∀nx,aloud P (evalT (TD (fun j=>listed.getD j false) recs T0)) q.hb q.o=some nx→aop P (evalT (TD (fun j=>listed.getD j false) recs T0)) q.hb q.o=some nx:=fun nx hh=>by unfold aop;rw [r2];exact hh
      rcases dloud_nx r3 with h | ⟨f,args,h,hc⟩ | ⟨l,args,h,hc⟩
      · have ha:=hop _ h
        have hnd:∀c,q.o.op≠.defer c:=fun c hc=>by obtain ⟨d,hd⟩:=aop_defer hc ha;cases hd
        obtain ⟨_,φ',v',w',hr,hle,hv,hI'⟩:=aop_sound hN hqb hI (evs_t ht) ha
        rw [sem_plain (.inl hnd)]
        have hrest:=goOn φ' (a.put q.o.dst v') w' hle hI' (vrs_put (ht.mono hle) hv _) (by rw [put_defers];exact hd.mono hle)
        rcases hr with hr | ⟨hr,rfl⟩
        · rw [hr];exact hrest
        · rw [hr];exact hrest
      · have ha:=hop _ h
        have hnd:∀c,q.o.op≠.defer c:=fun c hc=>by obtain ⟨d,hd⟩:=aop_defer hc ha;cases hd
        obtain ⟨_,args',hr,hargs⟩:=aop_sound hN hqb hI (evs_t ht) ha
        obtain ⟨hp1,hcc⟩:=hs _ _ hc hqb
        rw [sem_plain (.inl hnd),hr]
        refine ⟨hF.depth n,(hF.calls (hcc K w0 φ w args' (n-1) hI hargs)).mono ?_⟩
        intro en w' hen
        cases en with
        | returned v' =>
          obtain ⟨φ',hle,hv,hI'⟩:=hen
          exact goOn φ' (a.put q.o.dst v') w' hle hI' (vrs_put (ht.mono hle) hv _) (by rw [put_defers];exact hd.mono hle)
        | panicked ch=>exact hen.elim
        | outgrown=>exact hen.elim
      · have ha:=hop _ h
        have hnd:∀c,q.o.op≠.defer c:=fun c hc=>by obtain ⟨d,hd⟩:=aop_defer hc ha;cases hd
        obtain ⟨B,tb,args',hφ,hr,hargs⟩:=aop_sound hN hqb hI (evs_t ht) ha
        obtain ⟨hp1,hcc⟩:=hs _ _ hc hqb
        obtain ⟨fn,tm,as,bd,hy,hround⟩:=hcc K w0 φ w args' B tb (n-1) hI hargs hφ
        rw [sem_plain (.inl hnd),hr,hy]
        refine ⟨hF.depth n,(hF.round hround).mono ?_⟩
        intro en w' hen
        cases en with
        | returned v' =>
          obtain ⟨φ',hle,hv,hI'⟩:=hen
          exact goOn φ' (a.put q.o.dst v') w' hle hI' (vrs_put (ht.mono hle) hv _) (by rw [put_defers];exact hd.mono hle)
        | panicked ch=>exact hen.elim
        | outgrown=>exact hen.elim
end
theorem drawn_ok {P:Program}(hN:NoNG P) (hm:P.follows .mixedOrders=true):DrawnOk P drawn:=by
  intro self hs rd id os s o h
  unfold drawn at h
  split at h
  case isFalse=>cases h
  rename_i hp
  split at h
  case h_2=>cases h
  rename_i recs T h1 hr
  split at h
  case isFalse=>cases h
  rename_i hc
  simp only [Option.some.injEq]at h
  subst h
  have p:=plan_of hp hr hc
  intro hb
  refine ⟨(p.tr.pres hs hb).1,?_⟩
  intro K w0 φ w a F n hI ht hd hF
  refine wpIn_region_any hm ?_
  have h0:∀j,(Array.replicate os.size false).getD j false=false:=fun j=>by
    simp only [Array.getD_eq_getD_getElem?,Array.getElem?_replicate]
    split<;>rfl
  refine p.run hN hs hb os.size _ (List.range os.size) φ a _ (by simp) ?_ ?_ (by simp) ?_ ?_ hd hF (fun x a w' hc=>hc)
  · intro j k hj;simp only [h0]at hj;cases hj
  · intro i hi _;exact List.mem_range.2 hi
  · rw [HD_none _ fun r _ _=>h0 r.i];exact hI.drew
  · rw [TD_none _ fun r _=>h0 r.i];exact ht
def getInt (c:Array Value)(i:Nat):Int:=match lget c.toList i with | .int _ n=>n | _=>0
def getBool (c:Array Value)(i:Nat):Bool:=match lget c.toList i with | .bool b=>b | _=>false
def getStr (c:Array Value)(i:Nat):ByteArray:=match lget c.toList i with | .string s=>s | _=>ByteArray.empty
def isInt (q:IntKind)(c:Array Value)(i:Nat):Bool:=match lget c.toList i with | .int q' _=>decide (q'=q) | _=>false
def isBool (c:Array Value)(i:Nat):Bool:=match lget c.toList i with | .bool _=>true | _=>false
def isStr (c:Array Value)(i:Nat):Bool:=match lget c.toList i with | .string _=>true | _=>false
def isLst (c:Array Value)(i:Nat):Bool:=match lget c.toList i with | .func (.via 0 ⟨[]⟩ 0 true) _ ⟨[.slice (some ⟨0,_,none⟩) _ _]⟩=>true | _=>false
def getArr (c:Array Value)(i:Nat):Array Value:=match lget c.toList i with | .func (.via 0 ⟨[]⟩ 0 true) a _=>a | _=>#[]
def getOff (c:Array Value)(i:Nat):Nat:=match lget c.toList i with | .func (.via 0 ⟨[]⟩ 0 true) _ ⟨[.slice (some ⟨_,o,none⟩) _ _]⟩=>o | _=>0
def getLen (c:Array Value)(i:Nat):Nat:=match lget c.toList i with | .func (.via 0 ⟨[]⟩ 0 true) _ ⟨[.slice _ n _]⟩=>n | _=>0
def getSz (c:Array Value)(i:Nat):Nat:=match lget c.toList i with | .func (.via 0 ⟨[]⟩ 0 true) _ ⟨[.slice _ _ z]⟩=>z | _=>0
def inArr (c:Array Value)(i:Nat):Bool:=Nat.blt i c.toList.length
theorem lget_some {c:Array Value}{i:Nat}{v:Value}(h:lget c.toList i=v) (hn:v≠undef):c[i]?=some v:=by
  rw [lget_eq,Array.toArray_toList,Array.getD_eq_getD_getElem?]at h
  cases hc:c[i]? with
  | none=>rw [hc]at h;exact absurd h.symm hn
  | some u=>rw [hc]at h;simp at h;rw [h]
theorem isInt_ok {q:IntKind}{c:Array Value}{i:Nat}(h:isInt q c i=true):c[i]?=some (.int q (getInt c i)):=by
  unfold isInt at h
  split at h
  · rename_i q' n hl
    have:=of_decide_eq_true h
    subst this
    rw [lget_some hl (by intro h;cases h)]
    simp [getInt,hl]
  · cases h
theorem isBool_ok {c:Array Value}{i:Nat}(h:isBool c i=true):c[i]?=some (.bool (getBool c i)):=by
  unfold isBool at h
  split at h
  · rename_i b hl
    rw [lget_some hl (by intro h;cases h)]
    simp [getBool,hl]
  · cases h
theorem isStr_ok {c:Array Value}{i:Nat}(h:isStr c i=true):c[i]?=some (.string (getStr c i)):=by
  unfold isStr at h
  split at h
  · rename_i b hl
    rw [lget_some hl (by intro h;cases h)]
    simp [getStr,hl]
  · cases h
theorem isLst_ok {c:Array Value}{i:Nat}(h:isLst c i=true):c[i]?=some (.func (.via 0 ⟨[]⟩ 0 true) (getArr c i) ⟨[.slice (some ⟨0,getOff c i,none⟩) (getLen c i) (getSz c i)]⟩):=by
  unfold isLst at h
  split at h
  · rename_i a o n z hl
    rw [lget_some hl (by intro h;cases h)]
    simp [getArr,getOff,getLen,getSz,hl]
  · cases h
theorem inArr_ok {c:Array Value}{i:Nat}(h:inArr c i=true):c[i]?=some (lget c.toList i):=by
  unfold inArr at h
  rw [Nat.blt_eq]at h
  have hlt:i<c.size:=by simpa using h
  rw [lget_eq,Array.toArray_toList,Array.getD_eq_getD_getElem?,Array.getElem?_eq_getElem hlt]
  rfl
inductive Leaf where
  | int (q:IntKind)
  | bool
  | str
  | lst
  | any
def leafOf (P:Program)(fz:Bool)(t:TypeId):Leaf :=
  match P.underlying t with
  | some (.int q)=>.int q
  | some .bool=>.bool
  | some .string=>.str
  | some (.slice _)=>cond fz .lst .any
  | _=>.any
def leaves (P:Program)(fz:Bool):Nat→TypeId→List Leaf
  | 0,_=>[]
  | d+1,t =>
    match P.underlying t with
    | some (.struct fs)=>fs.toList.flatMap fun f=>leaves P fz d f.type
    | some (.array n e)=>(List.range n).flatMap fun _=>leaves P fz d e
    | _=>[leafOf P fz t]
def rdLeaf (c:Array Value):Leaf→Nat→Bool×Value
  | .int q,i=>(isInt q c i,.int q (getInt c i))
  | .bool,i=>(isBool c i,.bool (getBool c i))
  | .str,i=>(isStr c i,.string (getStr c i))
  | .lst,i=>(isLst c i,.func (.via 0 ⟨[]⟩ 0 true) (getArr c i) ⟨[.slice (some ⟨0,getOff c i,none⟩) (getLen c i) (getSz c i)]⟩)
  | .any,i=>(inArr c i,lget c.toList i)
theorem rdLeaf_ok {c:Array Value}{l:Leaf}{i:Nat}(h:(rdLeaf c l i).1=true):c[i]?=some (rdLeaf c l i).2:=by
  cases l with
  | int q=>exact isInt_ok h
  | bool=>exact isBool_ok h
  | str=>exact isStr_ok h
  | lst=>exact isLst_ok h
  | any=>exact inArr_ok h
def rdOk (c:Array Value):List Leaf→Nat→Bool
  | [],_=>true
  | l::r,i=>(rdLeaf c l i).1&&rdOk c r (i+1)
def rdVals (c:Array Value):List Leaf→Nat→List Value
  | [],_=>[]
  | l::r,i=>(rdLeaf c l i).2::rdVals c r (i+1)
theorem rdVals_length (c:Array Value):∀(l:List Leaf) (i:Nat),(rdVals c l i).length=l.length
  | [],_=>rfl
  | _::r,i=>by simp [rdVals,rdVals_length c r]
theorem rdVals_get {c:Array Value}:∀{l:List Leaf}{i:Nat},rdOk c l i=true→∀j,j<l.length→(rdVals c l i)[j]?=c[i+j]?
  | [],_,_,j,hj=>absurd hj (Nat.not_lt_zero _)
  | l::r,i,h,j,hj=>by
    simp only [rdOk,Bool.and_eq_true]at h
    cases j with
    | zero=>simp only [rdVals,List.getElem?_cons_zero];rw [Nat.add_zero,rdLeaf_ok h.1]
    | succ j =>
      simp only [rdVals,List.getElem?_cons_succ]
      rw [rdVals_get h.2 j (by simpa using hj)]
      congr 1;omega
theorem rdVals_le {c:Array Value}{l:List Leaf}{i:Nat}(h:rdOk c l i=true) (hn:l≠[]):i+l.length≤c.size:=by
  have hpos:0<l.length:=List.length_pos_iff.2 hn
  have:=rdVals_get h (l.length-1) (by omega)
  rw [List.getElem?_eq_getElem (by rw [rdVals_length];omega)]at this
  have:=(Array.getElem?_eq_some_iff.1 this.symm).1
  omega
theorem rdVals_ok {c:Array Value}{l:List Leaf}{i:Nat}(h:rdOk c l i=true) (hle:i+l.length≤c.size):c.extract i (i+l.length)=⟨rdVals c l i⟩:=by
  apply Array.ext_getElem?
  intro j
  rw [Array.getElem?_extract]
  by_cases hj:j<l.length
  · rw [if_pos (by omega)]
    simp only [List.getElem?_toArray]
    exact (rdVals_get h j hj).symm
  · rw [if_neg (by omega)]
    simp only [List.getElem?_toArray]
    rw [List.getElem?_eq_none (by rw [rdVals_length];omega)]
def nthO (l:List Ob):Nat→Option Ob:=List.rec (motive:=fun _=>Nat→Option Ob) (fun _=>none) (fun v _ ih n=>Nat.rec (motive:=fun _=>Option Ob) (some v) (fun m _=>ih m) n) l
theorem nthO_eq:∀(l:List Ob) (n:Nat),nthO l n=l[n]?
  | [],n=>by show none=_;simp
  | v::r,0=>by show some v=_;simp
  | v::r,n+1=>by show nthO r n=_;rw [nthO_eq r n];simp
def isCells (H:List Ob)(b:Nat):Bool:=match nthO H b with | some (.cells _ _)=>true | _=>false
def cellsAt (H:List Ob)(b:Nat):Array Value:=match nthO H b with | some (.cells c _)=>c | _=>#[]
theorem cells_ok {H:List Ob}{b:Nat}(h:isCells H b=true):∃ro,H[b]?=some (.cells (cellsAt H b) ro):=by
  unfold isCells at h
  unfold cellsAt
  rw [← nthO_eq]
  split at h
  · rename_i c ro hc;rw [hc];exact ⟨ro,rfl⟩
  · cases h
def symCells (P:Program)(fz:Bool)(c:Array Value)(t:TypeId)(off:Nat):Option (Bool×Value) :=
  match isAggB P t with
  | some true =>
    match sizeB P t with
    | some n=>if (leaves P fz 20 t).length=n∧n≠0 then some (rdOk c (leaves P fz 20 t) off,.agg ⟨rdVals c (leaves P fz 20 t) off⟩) else none
    | none=>none
  | some false=>some ((rdLeaf c (leafOf P fz t) off).1,(rdLeaf c (leafOf P fz t) off).2)
  | none=>none
theorem symCells_ok {P:Program}{fz:Bool}{c:Array Value}{t:TypeId}{off:Nat}{v:Value}{b:Bool}(h:symCells P fz c t off=some (b,v)) (hb:b=true):rCells P t c off=some v:=by
  unfold symCells at h
  split at h
  · rename_i ha
    split at h
    · rename_i n hn
      split at h
      · rename_i hl
        simp only [Option.some.injEq,Prod.mk.injEq]at h
        obtain ⟨rfl,rfl⟩:=h
        simp only [rCells,ha,hn]
        have hle:=rdVals_le hb (by intro e;rw [e]at hl;exact hl.2 hl.1.symm)
        rw [hl.1]at hle
        rw [if_pos hle]
        congr 2
        rw [← hl.1]
        exact rdVals_ok hb (by rw [hl.1];exact hle)
      · cases h
    · cases h
  · rename_i ha
    simp only [Option.some.injEq,Prod.mk.injEq]at h
    obtain ⟨h1,rfl⟩:=h
    rw [← h1]at hb
    simp only [rCells,ha]
    exact rdLeaf_ok hb
  · cases h
def symLoad (P:Program)(H:List Ob)(t:TypeId)(x:Value):Option (Bool×Value) :=
  match x with
  | .pointer (some ⟨b,off,none⟩)=>(symCells P false (cellsAt H b) t off).map fun r=>(isCells H b&&r.1,r.2)
  | .func (.via 0 ⟨[]⟩ 0 false) c ⟨[.pointer (some ⟨_,off,none⟩)]⟩=>symCells P true c t off
  | _=>none
theorem symLoad_ok {P:Program}{H:List Ob}{t:TypeId}{x v:Value}{b:Bool}(h:symLoad P H t x=some (b,v)) (hb:b=true):rLoad P H t x=some v:=by
  unfold symLoad at h
  split at h
  · rename_i bk off
    rw [Option.map_eq_some_iff]at h
    obtain ⟨⟨b1,v1⟩,h1,h2⟩:=h
    simp only [Prod.mk.injEq]at h2
    obtain ⟨rfl,rfl⟩:=h2
    rw [Bool.and_eq_true]at hb
    obtain ⟨ro,hc⟩:=cells_ok hb.1
    simp only [rLoad,hc]
    exact symCells_ok h1 hb.2
  · exact symCells_ok h hb
  · cases h
def symInt (op:BinOp)(k:IntKind)(a b:Int):Option (Bool×Value) :=
  match op with
  | .add=>some (true,.int k (k.wrap (a+b)))
  | .sub=>some (true,.int k (k.wrap (a-b)))
  | .mul=>some (true,.int k (k.wrap (a*b)))
  | .eql=>some (true,.bool (decide (a=b)))
  | .neq=>some (true,.bool (!decide (a=b)))
  | .lss=>some (true,.bool (decide (a<b)))
  | .leq=>some (true,.bool (decide (a≤b)))
  | .gtr=>some (true,.bool (decide (b<a)))
  | .geq=>some (true,.bool (decide (b≤a)))
  | .quo=>some (!decide (b=0),.int k (k.wrap (a.tdiv b)))
  | .rem=>some (!decide (b=0),.int k (a.tmod b))
  | .shl=>some (decide (0≤b),.int k (k.wrap (a*2 ^ (min b.toNat k.bits))))
  | .shr=>some (decide (0≤b),.int k (a.fdiv (2 ^ (min b.toNat k.bits))))
  | _=>none
theorem intEq (a b:Int):(a == b)=decide (a=b):=by
  rw [Bool.eq_iff_iff];simp
theorem intNe (a b:Int):(a != b)=!decide (a=b):=by
  rw [bne,intEq]
theorem pureVal_of {P:Program}{s:Sem Next}{v:Value}(h:pureRun P s=some (.value v)) (hg:gr v=true):pureVal P s=some v:=by
  unfold pureVal;rw [h];simp only;rw [if_pos hg]
theorem pure_val {P:Program}{s:Sem Value}{v:Value}(h:pureRun P s=some v):pureRun P (do pure (.value (← s)):Sem Next)=some (.value v):=by
  rw [pureRun_bind,h];rfl
theorem pure_bin {P:Program} {ρ:Operand→Value}{o:Oper}{op:BinOp}{t yt:TypeId}{x y:Operand}{v:Value}(ho:o.op=.binOp op t x y yt) (hg:pureRun P (eqGuard op t x y (ρ x) (ρ y))=some ())
    (hb:pureRun P (binOp op t (ρ x) (ρ y))=some v) (hv:gr v=true):pureVal P (execOp ρ o)=some v:=by
  refine pureVal_of ?_ hv
  simp only [execOp,ho]
  exact pure_val (by rw [pureRun_bind,hg];exact hb)
theorem guard_int {P:Program}(op:BinOp) (t:TypeId) (x y:Operand) (k k':IntKind) (a b:Int):pureRun P (eqGuard op t x y (.int k a) (.int k' b))=some ():=by
  unfold eqGuard;cases op<;>rfl
theorem guard_bool {P:Program}(op:BinOp) (t:TypeId) (x y:Operand) (a b:Bool):pureRun P (eqGuard op t x y (.bool a) (.bool b))=some ():=by
  unfold eqGuard;cases op<;>rfl
theorem guard_str {P:Program}(op:BinOp) (t:TypeId) (x y:Operand) (a b:ByteArray):pureRun P (eqGuard op t x y (.string a) (.string b))=some ():=by
  unfold eqGuard;cases op<;>rfl
def symBin (P:Program)(op:BinOp)(t:TypeId)(x y:Value):Option (Bool×Value) :=
  match x,y with
  | .int k a,.int k' b=>if k=k' then symInt op k a b else match op with
    | .shl=>some (decide (0≤b),.int k (k.wrap (a*2 ^ (min b.toNat k.bits))))
    | .shr=>some (decide (0≤b),.int k (a.fdiv (2 ^ (min b.toNat k.bits))))
    | _=>none
  | .bool a,.bool b=>match P.underlying t with
    | some .bool=>(match op with | .eql=>some (true,.bool (a == b)) | .neq=>some (true,.bool (!(a == b))) | _=>none)
    | _=>none
  | .string a,.string b=>match op with | .eql=>some (true,.bool (a.toList == b.toList)) | .neq=>some (true,.bool (!(a.toList == b.toList))) | _=>none
  | _,_=>none
theorem shift_shl {P:Program} {k k':IntKind}{a b:Int}(h:decide (0≤b)=true):pureRun P (Op.shift .shl k a k' b)=some (.int k (k.wrap (a*2 ^ (min b.toNat k.bits)))):=by
  have:=of_decide_eq_true h
  unfold Op.shift
  rw [if_neg (by omega)]
  rfl
theorem shift_shr {P:Program} {k k':IntKind}{a b:Int}(h:decide (0≤b)=true):pureRun P (Op.shift .shr k a k' b)=some (.int k (a.fdiv (2 ^ (min b.toNat k.bits)))):=by
  have:=of_decide_eq_true h
  unfold Op.shift
  rw [if_neg (by omega)]
  rfl
theorem symBin_ok {P:Program} {ρ:Operand→Value}{H:List Ob}{o:Oper}{op:BinOp}{t yt:TypeId}{x y:Operand}{b:Bool}{v:Value}(ho:o.op=.binOp op t x y yt) (hx:okO x=true) (hy:okO y=true)
    (h:symBin P op t (ρ x) (ρ y)=some (b,v)) (hb:b=true):aread P ρ H o=some v:=by
  have main:gr (ρ x)=true→gr (ρ y)=true→(fastBin op (ρ x) (ρ y)=some v∨fastBin op (ρ x) (ρ y)=none∧pureVal P (execOp ρ o)=some v)→aread P ρ H o=some v:=by
    intro g1 g2 h
    simp only [aread,ho,hx,hy,g1,g2,Bool.and_self,if_true]
    rcases h with h | ⟨h1,h2⟩
    · rw [h]
    · rw [h1];exact h2
  have pb:=@pure_bin P ρ o op t yt x y v ho
  unfold symBin at h
  split at h
  · rename_i k a k' c hxa hyc
    rw [hxa,hyc]at main pb
    have main:=main rfl rfl
    split at h
    · rename_i hk
      subst hk
      unfold symInt at h
      cases op<;>simp only [Option.some.injEq,Prod.mk.injEq]at h<;>first | (cases h;done) | skip
      case quo =>
        obtain ⟨h1,rfl⟩:=h
        subst h1
        refine main (.inr ⟨by simp [fastBin],pb (guard_int _ _ _ _ _ _ _ _) ?_ rfl⟩)
        simp only [binOp,ne_eq,not_true_eq_false,if_false,Op.intDiv]
        rw [if_neg (by simpa using hb)];rfl
      case rem =>
        obtain ⟨h1,rfl⟩:=h
        subst h1
        refine main (.inr ⟨by simp [fastBin],pb (guard_int _ _ _ _ _ _ _ _) ?_ rfl⟩)
        simp only [binOp,ne_eq,not_true_eq_false,if_false,Op.intDiv]
        rw [if_neg (by simpa using hb)];rfl
      case shl =>
        obtain ⟨h1,rfl⟩:=h
        subst h1
        exact main (.inr ⟨by simp [fastBin],pb (guard_int _ _ _ _ _ _ _ _) (by simpa only [binOp] using shift_shl hb) rfl⟩)
      case shr =>
        obtain ⟨h1,rfl⟩:=h
        subst h1
        exact main (.inr ⟨by simp [fastBin],pb (guard_int _ _ _ _ _ _ _ _) (by simpa only [binOp] using shift_shr hb) rfl⟩)
      all_goals
        obtain ⟨h1,rfl⟩:=h
        refine main (.inl ?_)
        simp [fastBin,intEq,intNe]
    · rename_i hk
      split at h
      · simp only [Option.some.injEq,Prod.mk.injEq]at h
        obtain ⟨h1,rfl⟩:=h
        subst h1
        exact main (.inr ⟨by simp [fastBin,hk],pb (guard_int _ _ _ _ _ _ _ _) (by simpa only [binOp] using shift_shl hb) rfl⟩)
      · simp only [Option.some.injEq,Prod.mk.injEq]at h
        obtain ⟨h1,rfl⟩:=h
        subst h1
        exact main (.inr ⟨by simp [fastBin,hk],pb (guard_int _ _ _ _ _ _ _ _) (by simpa only [binOp] using shift_shr hb) rfl⟩)
      · cases h
  · rename_i a c hxa hyc
    rw [hxa,hyc]at main pb
    have main:=main rfl rfl
    split at h
    · rename_i hu
      split at h
      · simp only [Option.some.injEq,Prod.mk.injEq]at h
        obtain ⟨h1,rfl⟩:=h
        refine main (.inr ⟨by simp [fastBin],pb (guard_bool _ _ _ _ _ _) ?_ rfl⟩)
        simp only [binOp]
        rw [pureRun_bind,show pureRun P (Op.equal t (.bool a) (.bool c))=some (a == c) from equalIn_bool 9999 hu a c];rfl
      · simp only [Option.some.injEq,Prod.mk.injEq]at h
        obtain ⟨h1,rfl⟩:=h
        refine main (.inr ⟨by simp [fastBin],pb (guard_bool _ _ _ _ _ _) ?_ rfl⟩)
        simp only [binOp]
        rw [pureRun_bind,show pureRun P (Op.equal t (.bool a) (.bool c))=some (a == c) from equalIn_bool 9999 hu a c];rfl
      · cases h
    · cases h
  · rename_i a c hxa hyc
    rw [hxa,hyc]at main pb
    have main:=main rfl rfl
    split at h
    · simp only [Option.some.injEq,Prod.mk.injEq]at h
      obtain ⟨h1,rfl⟩:=h
      refine main (.inr ⟨by simp [fastBin],pb (guard_str _ _ _ _ _ _) ?_ rfl⟩)
      simp only [binOp,Op.stringOp];rfl
    · simp only [Option.some.injEq,Prod.mk.injEq]at h
      obtain ⟨h1,rfl⟩:=h
      refine main (.inr ⟨by simp [fastBin],pb (guard_str _ _ _ _ _ _) ?_ rfl⟩)
      simp only [binOp,Op.stringOp];rfl
    · cases h
  · cases h
end
end Go.Gi
