/- Part 2 of the texts below the claim. Conditions: none. -/
import Derived.Test.YtdidolncblhngaaMg1
set_option linter.unusedVariables false
set_option linter.unusedSimpArgs false
namespace Go.Gi
open Go.RowKit
def intB:TypeDesc→Bool
  | .int _=>true
  | _=>false
def lenB:Value→Option Nat
  | .slice _ n _=>some n
  | .func (.via 0 ⟨[]⟩ 0 true) _ ⟨[.slice (some ⟨_,_,none⟩) n _]⟩=>some n
  | .string s=>some s.size
  | _=>none
def newB (H:List Ob)(size n:Nat):Value→Option (Array Value)
  | .slice (some ⟨b,off,none⟩) _ _ =>
    match H[b]? with
    | some (.cells c _)=>if off+n*size≤c.size then some (c.extract off (off+n*size)) else none
    | _=>none
  | .func (.via 0 ⟨[]⟩ 0 true) c ⟨[.slice (some ⟨_,off,none⟩) _ _]⟩=>if off+n*size≤c.size then some (c.extract off (off+n*size)) else none
  | .string s=>some (strBytes (s.extract 0 n))
  | _=>none
def lAppend (P:Program)(h:Hp)(ts tx:TypeId)(s x:Value):Option (Value×Hp) :=
  match P.underlying ts,P.underlying tx with
  | some (.slice e),some d =>
    if intB d=true then none else
    match P.info? e,zeroB P e with
    | some inf,some z =>
      match s,lenB x with
      | .slice base sl sz,some n =>
        if n=0 then some (.slice base sl sz,h) else
        match newB h.bl inf.size n x with
        | some news =>
          if (sl+n)*inf.bytes≤140737488355328∧sl+n≤4611686018427387904∧news.size=n*inf.size∧news.toList.all (·.oneCell')=true∧z.cells.size=inf.size then
            match base with
            | none=>if sl=0 then some (.slice (some ⟨h.bl.length,0,none⟩) n inf.size,h.push (.cells news false)) else none
            | some ⟨b,off,none⟩ =>
              match h.bl[b]? with
              | some (.cells c false) =>
                if (sz=inf.size∧off+sl*inf.size≤c.size)∧off+sl*inf.size≤c.size then
                  some (.slice (some ⟨h.bl.length,0,none⟩) (sl+n) inf.size,(h.put b .dead).push (.cells (c.extract off (off+sl*inf.size)++news) false))
                else none
              | _=>none
            | _=>none
          else none
        | none=>none
      | _,_=>none
    | _,_=>none
  | _,_=>none
section
variable {P:Program}{K:Nat→Prop}{w0 w:World} {φ:Phi}{H:List Ob}
theorem run_append_fits {ts tx ty e:TypeId}{d:TypeDesc}{inf:TypeInfo}{base:Option Addr}{sl cap n:Nat}{x:Value}{news:Array Value}(hs:P.underlying ts=some (.slice e)) (hx:P.underlying tx=some d) (hd:intB d=false) (hi:P.info? e=some inf)
    (hlen:(Builtin.lenOf x).run P w=.ok n w) (hnew:(Builtin.firstCells inf.size n x).run P w=.ok news w) (hfit:sl+n≤cap) :
    (Builtin.append_ #[ts,tx] ty #[.slice base sl cap,x]).run P w =
      ((match base with | some a=>storeCells (a.add (sl*inf.size)) news.toList | none=>pure ():Sem Unit).run P w).andThen fun _ w'=>.ok (.slice base (sl+n) cap) w':=by
  have hsz:(sizeOf e).run P w=.ok inf.size w:=run_size (by simp [sizeB,hi]) w
  cases d<;>first | cases hd | skip
  all_goals
    simp only [Builtin.append_,List.getElem?_toArray,List.getElem?_cons_zero,List.getElem?_cons_succ,Sem.run_bind,run_underlying hs,run_underlying hx,Result.andThen_ok,hsz,Sem.run_pure,Bool.false_eq_true,if_false,hlen,if_pos hfit,Bool.not_false,if_true,hnew]
    cases base<;>simp only [Sem.run_bind,Sem.run_pure,Result.andThen_ok]
theorem run_append_grows {ts tx ty e:TypeId}{d:TypeDesc}{inf:TypeInfo}{z:Value}{base:Option Addr}{sl cap n:Nat}{x:Value}{news old:Array Value}(hs:P.underlying ts=some (.slice e)) (hx:P.underlying tx=some d) (hd:intB d=false) (hi:P.info? e=some inf)
    (hz:∀w:World,(zeroValue e).run P w=.ok z w) (hlen:(Builtin.lenOf x).run P w=.ok n w) (hnew:(Builtin.firstCells inf.size n x).run P w.drew=.ok news w.drew) (hold:(Builtin.firstCells inf.size sl (.slice base sl cap)).run P w.drew=.ok old w.drew)
    (hfit:cap<sl+n) (hb:(sl+n)*inf.bytes≤140737488355328) (hsm:sl+n≤4611686018427387904) :
    ∃newCap,sl+n≤newCap∧(Builtin.append_ #[ts,tx] ty #[.slice base sl cap,x]).run P w =
      .ok (.slice (some ⟨w.heap.size,0,none⟩) (sl+n) newCap) (w.drew.alloc (.cells (old++news++Builtin.zeroCells z.cells (newCap-(sl+n))) e)):=by
  have hsz:∀w:World,(sizeOf e).run P w=.ok inf.size w:=run_size (by simp [sizeB,hi])
  have hti:∀w:World,(typeInfo e).run P w=.ok inf w:=fun w=>by simp [typeInfo,hi]
  have hg:=Builtin_growslice hfit hb
  refine ⟨_,cut_ge (sl+n) cap e (w.tape w.drawn (.appendCap (sl+n) cap e)),?_⟩
  have hmax:¬(((sl+n:Nat):Int) > IntKind.i64.max∧(False∨inf.bytes=0)):=by
    rintro ⟨h1,_⟩
    have:(IntKind.i64.max:Int)=9223372036854775807:=by decide
    omega
  cases d<;>first | cases hd | skip
  all_goals
    simp only [Builtin.append_,List.getElem?_toArray,List.getElem?_cons_zero,List.getElem?_cons_succ,Sem.run_bind,run_underlying hs,run_underlying hx,Result.andThen_ok,hsz,Sem.run_pure,Bool.false_eq_true,if_false,hlen,if_neg (show ¬sl+n≤cap by omega),Bool.not_false,if_true,hti,if_neg hmax,if_neg hg,
      run_choose,Question.forced,run_askRoom,newRow,run_newObj]
    rw [show ({ w with drawn:=w.drawn+1 }:World)=w.drew from rfl]
    simp only [hold,Result.andThen_ok,hnew,hz]
    rfl
where
  Builtin_growslice {sl n cap:Nat} {bytes:Nat} (h:cap<sl+n) (hb:(sl+n)*bytes≤140737488355328):¬Builtin.nextslicecap (sl+n) cap*bytes > 2 ^ 48:=by
    have:=growslice_fits h hb
    omega
  cut_ge (need old:Nat) (e:TypeId) (t:Nat):need≤Question.cut (.appendCap need old e) t:=by
    simp only [Question.cut];exact Nat.le_add_right _ _
theorem Inv.move (h:Inv K w0 φ H w) {b:Nat} {ob ob':Ob} {B base tot base' tot':Nat} {w':World}(hb:H[b]?=some ob) (hrw:ob.rw=true) (hφ:φ b=some (B,base,tot))
    (hw:∀k,k≠B→w'.heap[k]?=w.heap[k]?) (hsz:w'.heap.size=w.heap.size) (hos:w'.os=w.os) (htape:w'.tape=w.tape) (hout:w'.output=w.output)
    (hob:ObR (up φ H.length (B,base',tot')) w' ob' B base' tot'):Inv K w0 (up φ H.length (B,base',tot')) (H.set b .dead++[ob']) w':=by
  have hnone:φ H.length=none:=h.top _ (Nat.le_refl _)
  have hle:=le_up (x:=(B,base',tot')) hnone
  have hnew:∀{c:Nat} {o:Ob},(H.set b .dead++[ob'])[c]?=some o→o.live=true→(c<H.length∧c≠b∧H[c]?=some o)∨(c=H.length∧o=ob'):=by
    intro c o hc hl
    rcases Nat.lt_or_ge c H.length with hlt | hge
    · rw [List.getElem?_append_left (by rw [List.length_set];exact hlt),List.getElem?_set]at hc
      split at hc
      · split at hc
        · simp at hc;subst hc;cases hl
        · cases hc
      · rename_i e;exact .inl ⟨hlt,fun h=>e h.symm,hc⟩
    · rw [List.getElem?_append_right (by rw [List.length_set];exact hge),List.length_set]at hc
      rcases Nat.eq_or_lt_of_le hge with e | hlt
      · subst e;simp at hc;exact .inr ⟨rfl,hc.symm⟩
      · rw [List.getElem?_eq_none (by simp;omega)]at hc;cases hc
  have hne:∀{c:Nat} {o:Ob} {x:Nat×Nat×Nat},c≠b→H[c]?=some o→o.live=true→φ c=some x→x.1≠B :=
    fun hcb hc hl hx=>(h.sep b _ ob _ _ _ (Ne.symm hcb) hb hc hrw hl hφ hx).symm
  refine ⟨?_,?_,?_,?_,h.klt,by rw [hsz];exact h.size,hos.trans h.os,htape.trans h.tape,hout.trans h.output,?_,?_,?_,h.zk⟩
  · intro c o hc hl
    rcases hnew hc hl with ⟨hlt,hcb,hc'⟩ | ⟨rfl,rfl⟩
    · obtain ⟨B',base1,tot1,h1,h2⟩:=h.obs c o hc' hl
      exact ⟨B',base1,tot1,hle _ _ h1,h2.keep hle (hw B' (hne hcb hc' hl h1))⟩
    · exact ⟨_,_,_,up_same _ _ _,hob⟩
  · intro c c' o o' x y hcc hc hc' hrw' hl' hx hy
    rcases hnew hc (Ob.live_of_rw hrw') with ⟨hlt,hcb,hc1⟩ | ⟨rfl,rfl⟩
    · rcases hnew hc' hl' with ⟨hlt',hcb',hc1'⟩ | ⟨rfl,rfl⟩
      · rw [up_other _ _ (by omega)]at hx hy
        exact h.sep c c' o o' x y hcc hc1 hc1' hrw' hl' hx hy
      · rw [up_same]at hy;cases hy
        rw [up_other _ _ (by omega)]at hx
        exact hne hcb hc1 (Ob.live_of_rw hrw') hx
    · rcases hnew hc' hl' with ⟨hlt',hcb',hc1'⟩ | ⟨rfl,_⟩
      · rw [up_same]at hx;cases hx
        rw [up_other _ _ (by omega)]at hy
        exact (hne hcb' hc1' hl' hy).symm
      · exact absurd rfl hcc
  · intro c o x hc hrw' hx
    rcases hnew hc (Ob.live_of_rw hrw') with ⟨hlt,hcb,hc1⟩ | ⟨rfl,rfl⟩
    · rw [up_other _ _ (by omega)]at hx
      exact h.prot c o x hc1 hrw' hx
    · rw [up_same]at hx;cases hx
      exact (h.prot b ob (B,base,tot) hb hrw hφ:¬K B)
  · intro k hk
    have hkB:k≠B:=fun e=>h.prot b ob _ hb hrw hφ (e ▸ hk)
    exact (hw k hkB).trans (h.keep k hk)
  · intro c hc
    simp at hc
    rw [up_other _ _ (by omega)]
    exact h.top c (by omega)
  · intro k o hk
    have hkB:k≠B:=fun e=>by
      have:=h.zsep b ob _ hb hrw hφ
      have hk':φ.z k=some o:=hk
      rw [e,show φ.z B=none from this]at hk';cases hk'
    exact (hw k hkB).trans (h.frz k o hk)
  · intro c o x hc hrw' hx
    rcases hnew hc (Ob.live_of_rw hrw') with ⟨hlt,hcb,hc1⟩ | ⟨rfl,rfl⟩
    · rw [up_other _ _ (by omega)]at hx
      exact h.zsep c o x hc1 hrw' hx
    · rw [up_same]at hx;cases hx
      exact h.zsep b ob (B,base,tot) hb hrw hφ
theorem lenB_run {x x':Value}{n:Nat}(h:lenB x=some n) (hx:VR φ x x'):(Builtin.lenOf x').run P w=.ok n w:=by
  unfold lenB at h
  split at h
  · simp only [Option.some.injEq]at h;subst h
    cases hx<;>rfl
  · simp only [Option.some.injEq]at h;subst h
    cases hx with
    | fn hg=>cases hg
    | fz hf =>
      rcases hf.lst_inv with ⟨C,el,fr,cap',B,base,_,rfl,_⟩ | ⟨a',_,rfl,rfl⟩
      · rfl
      · rfl
  · simp only [Option.some.injEq]at h;subst h
    cases hx;rfl
  · cases h
theorem firstNone {x x':Value}(size:Nat) (hn:lenB x=some 0) (hx:VR φ x x'):(Builtin.firstCells size 0 x').run P w=.ok #[] w:=by
  have key:∀(a:Option Addr) (k:Nat),(Builtin.firstCells size 0 (.slice a 0 k)).run P w=.ok #[] w:=by
    intro a k
    cases a with
    | none=>rfl
    | some a=>simp only [Builtin.firstCells,Nat.zero_mul];rfl
  unfold lenB at hn
  split at hn
  · simp only [Option.some.injEq]at hn;subst hn
    cases hx<;>exact key _ _
  · simp only [Option.some.injEq]at hn;subst hn
    cases hx with
    | fn hg=>cases hg
    | fz hf =>
      rcases hf.lst_inv with ⟨C,el,fr,cap',B,base,_,rfl,_⟩ | ⟨a',_,_,rfl⟩
      · exact key _ _
      · exact key _ _
  · cases hx
    simp only [Builtin.firstCells,Sem.run_pure]
    congr 1
    apply Array.ext_getElem?
    intro i
    simp_all
  · cases hn
theorem newB_sound (hI:Inv K w0 φ H w) {x x':Value}{size n:Nat}{news:Array Value}(h:newB H size n x=some news) (hn:lenB x=some n) (h0:n≠0) (hx:VR φ x x') :
    ∃news',(Builtin.firstCells size n x').run P w=.ok news' w∧VRs φ news news':=by
  unfold newB at h
  split at h
  · rename_i b off m sz
    simp only [lenB,Option.some.injEq]at hn
    subst hn
    split at h
    · rename_i c ro hc
      split at h
      · rename_i hle
        simp only [Option.some.injEq]at h;subst h
        cases hx with
        | sliceZ=>exact absurd rfl h0
        | slice hφ _ _=>exact loadRow_sound hI hc hφ hle
      · cases h
    · cases h
  · rename_i c b off m sz
    simp only [lenB,Option.some.injEq]at hn
    subst hn
    split at h
    · rename_i hle
      simp only [Option.some.injEq]at h;subst h
      cases hx with
      | fn hg=>cases hg
      | fz hf =>
        rcases hf.lst_inv with ⟨C,el,fr,cap',B,base,_,rfl,hz,h1,h2,_,_⟩ | ⟨a',_,rfl,_⟩
        · exact loadRow_core (hI.frz _ _ hz) (fr_cells h1 h2) hle
        · exact absurd rfl h0
    · cases h
  · rename_i s
    simp only [Option.some.injEq]at h;subst h
    cases hx
    exact ⟨strBytes (s.extract 0 n),rfl,gBytes _⟩
  · cases h
theorem zeroCells_size (z:Array Value)(n:Nat):(Builtin.zeroCells z n).size=n*z.size:=by simp [Builtin.zeroCells]
theorem lAppend_sound {h h':Hp}(hI:Inv K w0 φ h.bl w) {ts tx ty:TypeId} {s s' x x' v:Value}(hl:lAppend P h ts tx s x=some (v,h')) (hs:VR φ s s') (hx:VR φ x x') :
    Loud P K w0 φ w (Builtin.append_ #[ts,tx] ty #[s',x']) v h'.bl:=by
  unfold lAppend at hl
  split at hl
  case h_2=>cases hl
  rename_i e d hus hux
  split at hl
  · cases hl
  rename_i hd
  have hd':intB d=false:=by cases hdd:intB d<;>simp_all
  split at hl
  case h_2=>cases hl
  rename_i inf z hi hz
  have hzr:=run_zero hz
  split at hl
  case h_2=>cases hl
  rename_i base sl sz n hn
  have hlen:∀w:World,(Builtin.lenOf x').run P w=.ok n w:=fun w=>lenB_run hn hx
  by_cases h0:n=0
  · subst h0
    rw [if_pos rfl]at hl
    simp only [Option.some.injEq,Prod.mk.injEq]at hl
    obtain ⟨rfl,rfl⟩:=hl
    have key:∀(base':Option Addr) (cap':Nat),sl≤cap'→(Builtin.append_ #[ts,tx] ty #[.slice base' sl cap',x']).run P w=.ok (.slice base' sl cap') w:=by
      intro base' cap' hc
      rw [run_append_fits hus hux hd' hi (hlen w) (firstNone inf.size hn hx) (by omega)]
      cases base'<;>rfl
    cases hs with
    | sliceN=>exact ⟨φ,_,w,key _ _ (Nat.le_refl _),le_refl φ,.sliceN,hI⟩
    | sliceZ hφ a' c=>exact ⟨φ,_,w,key _ _ (Nat.le_refl _),le_refl φ,.sliceZ hφ _ _,hI⟩
    | slice hφ hl1 hc=>exact ⟨φ,_,w,key _ _ hl1,le_refl φ,.slice hφ hl1 hc,hI⟩
  · rw [if_neg h0]at hl
    split at hl
    case h_2=>cases hl
    rename_i news hnew
    split at hl
    case isFalse=>cases hl
    rename_i hcond
    obtain ⟨hb,hsm,hns,h1c,hzs⟩:=hcond
    split at hl
    ·
      split at hl
      case isFalse=>cases hl
      rename_i hsl
      subst hsl
      simp only [Option.some.injEq,Prod.mk.injEq]at hl
      obtain ⟨rfl,rfl⟩:=hl
      cases hs
      obtain ⟨news',hnr,hnv⟩:=newB_sound (P:=P) hI.drew hnew hn h0 hx
      obtain ⟨newCap,hge,hrun⟩:=run_append_grows (P:=P) (w:=w) (ty:=ty) hus hux hd' hi (fun w=>(hzr w).1) (hlen w) hnr (old:=#[]) (base:=none) (sl:=0) (cap:=0) (by rfl) (by omega) hb hsm
      have hnsz:=hnv.size
      refine ⟨_,_,_,hrun,hI.le_new (w.heap.size,0,newCap*inf.size),?_,?_⟩
      · rw [Nat.zero_add]
        refine .slice (up_same _ _ _) (by omega) (by omega)
      · have hmul:n*inf.size≤newCap*inf.size:=Nat.mul_le_mul_right _ (by omega)
        refine hI.drew.cells (newCap*inf.size) (fun i v hv=>?_) (by omega) ?_
        · obtain ⟨v',q1,q2⟩:=vrs_some hnv hv
          refine ⟨v',?_,q2⟩
          rw [Array.getElem?_append_left (by rw [Array.size_append];rw [Array.getElem?_eq_some_iff]at hv;have:=hv.1;simp;omega)]
          simpa using q1
        · rw [Array.size_append,Array.size_append,zeroCells_size,hzs,← hnsz,hns]
          have:n*inf.size+(newCap-n)*inf.size=newCap*inf.size:=by rw [← Nat.add_mul];congr 1;omega
          simp;omega
    · rename_i b off
      split at hl
      case h_2=>cases hl
      rename_i c hc
      split at hl
      case isFalse=>cases hl
      rename_i hcond2
      obtain ⟨⟨hsz,hoff⟩,_⟩:=hcond2
      subst hsz
      simp only [Option.some.injEq,Prod.mk.injEq]at hl
      obtain ⟨rfl,rfl⟩:=hl
      have hlen':(h.put b .dead).bl.length=h.bl.length:=by simp [Hp.put]
      have grows:∀(base':Option Addr) (cap':Nat) (old':Array Value),cap' < sl+n→(Builtin.firstCells inf.size sl (.slice base' sl cap')).run P w.drew=.ok old' w.drew→VRs φ (c.extract off (off+sl*inf.size)) old' →
          Loud P K w0 φ w (Builtin.append_ #[ts,tx] ty #[.slice base' sl cap',x']) (.slice (some ⟨h.bl.length,0,none⟩) (sl+n) inf.size) ((h.put b .dead).push (.cells (c.extract off (off+sl*inf.size)++news) false)).bl:=by
        intro base' cap' old' hlt hold hov
        obtain ⟨news',hnr,hnv⟩:=newB_sound (P:=P) hI.drew hnew hn h0 hx
        obtain ⟨newCap,hge,hrun⟩:=run_append_grows (P:=P) (w:=w) (ty:=ty) hus hux hd' hi (fun w=>(hzr w).1) (hlen w) hnr hold hlt hb hsm
        have hnsz:=hnv.size
        have hosz:=hov.size
        have hcs:(c.extract off (off+sl*inf.size)).size=sl*inf.size:=by rw [Array.size_extract];omega
        have hmul:(sl+n)*inf.size≤newCap*inf.size:=Nat.mul_le_mul_right _ (by omega)
        have hadd:(sl+n)*inf.size=sl*inf.size+n*inf.size:=Nat.add_mul _ _ _
        have hI2:=hI.drew.forget b
        have hbl:((h.put b .dead).push (.cells (c.extract off (off+sl*inf.size)++news) false)).bl=h.bl.set b .dead++[.cells (c.extract off (off+sl*inf.size)++news) false]:=rfl
        have hnn:(h.bl.set b Ob.dead).length=h.bl.length:=List.length_set
        refine ⟨_,_,_,hrun,hI2.le_new (w.heap.size,0,newCap*inf.size),?_,?_⟩
        · refine .slice (by rw [← hnn];exact up_same _ _ _) hge (by omega)
        · rw [hbl]
          refine hI2.cells (newCap*inf.size) (fun i v hv=>?_) (by rw [Array.size_append];omega) ?_
          · obtain ⟨v',q1,q2⟩:=vrs_some (hov.append hnv) hv
            refine ⟨v',?_,q2⟩
            rw [Array.getElem?_append_left (by rw [Array.getElem?_eq_some_iff]at q1;exact q1.1)]
            exact q1
          · rw [Array.size_append,Array.size_append,zeroCells_size,hzs,← hnsz,← hosz,hns,hcs]
            have:(sl+n)*inf.size+(newCap-(sl+n))*inf.size=newCap*inf.size:=by rw [← Nat.add_mul];congr 1;omega
            omega
      cases hs with
      | sliceZ hφ a' c' =>
        refine grows (some a') 0 #[] (by omega) (by simp only [Builtin.firstCells,Nat.zero_mul];rfl) ?_
        intro i
        rw [Array.getElem?_extract,if_neg (by omega)]
        simp;exact .none
      | @slice _ _ _ _ cap' B base tot hφ hl1 hc1 =>
        by_cases hfit:sl+n≤cap'
        ·
          obtain ⟨news',hnr,hnv⟩:=newB_sound (P:=P) hI hnew hn h0 hx
          obtain ⟨B',base1,tot1,q1,C,el,fr,q2,q3,q4⟩:=hI.obs b _ hc rfl
          rw [hφ]at q1;cases q1
          obtain ⟨q4,q5,q6⟩:=q4 rfl
          have hnsz:=hnv.size
          have hmul:(sl+n)*inf.size≤cap'*inf.size:=Nat.mul_le_mul_right _ hfit
          have hadd:(sl+n)*inf.size=sl*inf.size+n*inf.size:=Nat.add_mul _ _ _
          have hnl:news'.toList.length=n*inf.size:=by rw [Array.length_toList,← hnsz,hns]
          obtain ⟨w',C',r1,r2,r3,r4,r5,r6,r7,r8,r9⟩:=run_storeCells (P:=P) (n:=base+off+sl*inf.size) news'.toList 0 w C q2 (by omega)
            (fun j g1 g2=>by have:=q6 (j-base) (by omega);rwa [show base+(j-base)=j by omega]at this) (vrl_one hnv.toList h1c)
          have hcs:(c.extract off (off+sl*inf.size)).size=sl*inf.size:=by rw [Array.size_extract];omega
          refine ⟨_,.slice (some ⟨B,base+off,none⟩) (sl+n) cap',w',?_,hI.le_new (B,base+off,tot-off),?_,hI.move hc rfl hφ r5 r6 r7 r8 r9 ⟨C',el,fr,r2,?_,fun _=>⟨by rw [Array.size_append];omega,by omega,fun i hi=>by have:=q6 (off+i) (by omega);rwa [← Nat.add_assoc]at this⟩⟩⟩
          · rw [run_append_fits hus hux hd' hi (hlen w) hnr hfit]
            simp only [add_none,r1,Result.andThen_ok]
          · exact .slice (off:=0) (up_same _ _ _) hfit (by omega)
          · intro i v hv
            rw [Array.getElem?_append,hcs]at hv
            rw [r4 (base+off+i)]
            split at hv
            · rename_i hlt
              rw [if_neg (by omega)]
              rw [Array.getElem?_extract,if_pos (by omega)]at hv
              obtain ⟨v',g1,g2⟩:=q3 (off+i) v hv
              rw [← Nat.add_assoc]at g1
              exact ⟨v',g1,g2.mono (hI.le_new _)⟩
            · rename_i hlt
              have hil:i-sl*inf.size<news.size:=by rw [Array.getElem?_eq_some_iff]at hv;exact hv.1
              rw [if_pos (by omega),show base+off+i-(base+off+sl*inf.size+0)=i-sl*inf.size by omega,Array.getElem?_toList]
              obtain ⟨v',g1,g2⟩:=vrs_some hnv hv
              exact ⟨v',g1,g2.mono (hI.le_new _)⟩
        · obtain ⟨old',ho1,ho2⟩:=loadRow_sound (P:=P) (n:=sl*inf.size) hI.drew hc hφ (by omega)
          exact grows _ cap' old' (by omega) (by simp only [Builtin.firstCells];exact ho1) ho2
    · cases hl
end
inductive Nx where
  | val (v:Value) (h:Hp)
  | enter (f:FuncId) (args:Array Value)
  | yield (l:Nat) (args:Array Value)
  | defer (d:Deferred)
  | panic (v:Value)
  | recover
def bodied (P:Program)(f:FuncId):Bool :=
  match P.funcs[f]? with
  | some fn=>fn.body.isSome
  | none=>false
def aloud (P:Program) (ρ:Operand→Value)(h:Hp)(o:Oper):Option Nx :=
  match o.op with
  | .alloc t=>(lAlloc P h t).map fun (v,h')=>.val v h'
  | .box _ x=>if okO x&&notT (ρ x) then some (.val (lBox h (ρ x)).1 (lBox h (ρ x)).2) else none
  | .buildSlice t len ps=>if ps.toList.all (fun x=>okO x.2&&notT (ρ x.2)) then (lBuildSlice P h t len (ps.toList.map fun (i,x)=>(i,ρ x))).map fun (v,h')=>.val v h' else none
  | .store t a x=>if okO a&&okO x then (lStore P h t (ρ a) (ρ x)).map fun h'=>.val undef h' else none
  | .convert src dst x=>if okO x then (match ρ x with | .string s=>(lStrBytes P h src dst s).map fun (v,h')=>.val v h' | _=>none) else none
  | .makeMap _ r=>if r.isNone then some (.val (lMakeMap h).1 (lMakeMap h).2) else none
  | .mapUpdate t m k x | .insert t m k x=>if okO m&&okO k&&okO x then (lMapUpdate P h t (ρ k) (ρ x) (ρ m)).map fun h'=>.val undef h' else none
  | .call { callee:=.builtin .append,args,argTypes } =>
    match args.toList,argTypes.toList with
    | [s,x],[ts,tx]=>if okO s&&okO x then (lAppend P h ts tx (ρ s) (ρ x)).map fun (v,h')=>.val v h' else none
    | _,_=>none
  | .call { callee:=.builtin .recover,.. }=>some .recover
  | .call { callee:=.value f,args,.. } =>
    if okO f&&args.toList.all okO then
      match ρ f with
      | .func (.func g) first cap=>if bodied P g then some (.enter g (first++args.map ρ++cap)) else none
      | .func (.yield l) first _=>if first.isEmpty then some (.yield l (args.map ρ)) else none
      | _=>none
    else none
  | .defer { callee:=.value f,args,.. } =>
    if okO f&&args.toList.all okO then
      match ρ f with
      | .func (.func g) first cap=>if bodied P g then some (.defer { target:=.fn (.func g) cap,args:=first++args.map ρ }) else none
      | _=>none
    else none
  | .panic x=>if okO x then (match ρ x with | .iface t v=>some (.panic (.iface t v)) | _=>none) else none
  | _=>none
def aop (P:Program) (ρ:Operand→Value)(h:Hp)(o:Oper):Option Nx :=
  match aread P ρ h.bl o with
  | some v=>some (.val v h)
  | none=>aloud P ρ h o
structure Pres (h h':Hp):Prop where
  base:h'.base=h.base
  len:h.bl.length≤h'.bl.length
  same:∀b:Nat,b<h.base→b ∉ h'.wr→b ∉ h.wr∧h'.bl[b]?=h.bl[b]?
  ro:∀(b:Nat) (ob:Ob),h'.bl[b]?=some ob→ob.live=true→ob.rw=false→h.bl[b]?=some ob
theorem Pres.refl (h:Hp):Pres h h:=⟨rfl,Nat.le_refl _,fun _ _ hn=>⟨hn,rfl⟩,fun _ _ h _ _=>h⟩
theorem Pres.trans {a b c:Hp}(h:Pres a b) (k:Pres b c):Pres a c :=
  ⟨k.base.trans h.base,Nat.le_trans h.len k.len,fun x hx hn=>by
    obtain ⟨h1,h2⟩:=k.same x (by rw [h.base];exact hx) hn
    obtain ⟨h3,h4⟩:=h.same x hx h1
    exact ⟨h3,h2.trans h4⟩,fun x ob hx hl hr=>h.ro x ob (k.ro x ob hx hl hr) hl hr⟩
theorem Pres.push (h:Hp)(ob:Ob)(hb:h.base≤h.bl.length)(hrw:(ob.live&&!ob.rw)=false:=by rfl):Pres h (h.push ob) :=
  ⟨rfl,by simp [Hp.push],fun b hlt hn=>⟨hn,by simp only [Hp.push];rw [List.getElem?_append_left (by omega)]⟩,fun b ob' hx hl hr=>by
    simp only [Hp.push]at hx
    rcases Nat.lt_or_ge b h.bl.length with hlt | hge
    · rw [List.getElem?_append_left hlt]at hx;exact hx
    · rw [List.getElem?_append_right hge]at hx
      rcases Nat.eq_or_lt_of_le hge with e | hlt
      · subst e;simp at hx;subst hx;rw [hl,hr]at hrw;cases hrw
      · rw [List.getElem?_eq_none (by simp;omega)]at hx;cases hx⟩
theorem Pres.put (h:Hp)(b:Nat)(ob:Ob)(hrw:(ob.live&&!ob.rw)=false:=by rfl):Pres h (h.put b ob) :=
  ⟨rfl,by simp [Hp.put],fun c hlt hn=>by
    simp only [Hp.put]at hn ⊢
    by_cases e:c=b
    · subst e;rw [if_pos hlt]at hn;simp at hn
    · refine ⟨?_,by rw [List.getElem?_set,if_neg (Ne.symm e)]⟩
      split at hn
      · simp at hn;exact hn.2
      · exact hn,fun c ob' hx hl hr=>by
    simp only [Hp.put]at hx
    rw [List.getElem?_set]at hx
    split at hx
    · split at hx
      · simp only [Option.some.injEq]at hx;subst hx;rw [hl,hr]at hrw;cases hrw
      · cases hx
    · exact hx⟩
def DR (φ:Phi) (d d':Deferred):Prop :=
  (∃g cap cap',d.target=.fn (.func g) cap∧d'.target=.fn (.func g) cap'∧VRs φ cap cap'∧VRs φ d.args d'.args) ∨
  (∃r B t,d.target=.collected r∧d'.target=.collected B∧φ r=some (B,0,t))
theorem DR.mono {φ ψ:Phi}(hle:le φ ψ) {d d':Deferred}(h:DR φ d d'):DR ψ d d':=by
  rcases h with ⟨g,cap,cap',h1,h2,h3,h4⟩ | ⟨r,B,t,h1,h2,h3⟩
  · exact .inl ⟨g,cap,cap',h1,h2,h3.mono hle,h4.mono hle⟩
  · exact .inr ⟨r,B,t,h1,h2,hle _ _ h3⟩
def NoNG (P : Program) : Prop:=∀ (f : FuncId) (fn : Func),P.funcs[f]? = some fn → fn.body.isSome = true → (fn.name == "runtime.NumGoroutine") = false
section
variable {P:Program}{K:Nat→Prop}{w0 w:World} {φ:Phi} {ρ ρ':Operand→Value}
def NxR (P:Program)(K:Nat→Prop)(w0:World) (φ:Phi)(w:World)(h:Hp)(s:Sem Next):Nx→Prop
  | .val v h'=>Pres h h'∧∃φ' v' w',(s.run P w=.ok (.value v') w'∨(s.run P w=.ok .skip w'∧v'=undef))∧le φ φ'∧VR φ' v v'∧Inv K w0 φ' h'.bl w'
  | .enter f args=>bodied P f=true∧∃args',s.run P w=.ok (.enter f args') w∧VRs φ args args'
  | .yield l args=>∃B t args',φ l=some (B,0,t)∧s.run P w=(Instr.yield B args').run P w∧VRs φ args args'
  | .defer d=>∃d',s.run P w=.ok (.defer d') w∧DR φ d d'
  | .panic v=>∃v',s.run P w=.halt (.panic v') w∧VR φ v v'
  | .recover=>s.run P w=.ok .recover w
theorem nx_loud {h h':Hp}{s:Sem Value}{v:Value}(hp:Pres h h') (hl:Loud P K w0 φ w s v h'.bl):NxR P K w0 φ w h (do pure (.value (← s))) (.val v h'):=by
  obtain ⟨φ',v',w',hr,hle,hv,hI⟩:=hl
  exact ⟨hp,φ',v',w',.inl (by simp only [Sem.run_bind,hr,Result.andThen_ok,Sem.run_pure]),hle,hv,hI⟩
theorem nx_skip {h h':Hp}{s:Sem Unit} {w':World}(hp:Pres h h') (hr:s.run P w=.ok () w') (hI:Inv K w0 φ h'.bl w'):NxR P K w0 φ w h (do s;pure .skip) (.val undef h') :=
  ⟨hp,φ,undef,w',.inr ⟨by simp only [Sem.run_bind,hr,Result.andThen_ok,Sem.run_pure],rfl⟩,le_refl φ,VR.undef φ,hI⟩
theorem lAlloc_pres {h h':Hp}{t:TypeId}{v:Value}(hb:h.base≤h.bl.length) (hl:lAlloc P h t=some (v,h')):Pres h h':=by
  unfold lAlloc at hl
  split at hl
  · simp only [Option.some.injEq,Prod.mk.injEq]at hl;rw [← hl.2];exact Pres.push h _ hb
  · cases hl
theorem lBuildSlice_pres {h h':Hp}{t:TypeId}{len:Nat}{ps:List (Nat×Value)}{v:Value}(hb:h.base≤h.bl.length) (hl:lBuildSlice P h t len ps=some (v,h')):Pres h h':=by
  unfold lBuildSlice at hl
  repeat' (split at hl)
  all_goals first | cases hl;done | (simp only [Option.some.injEq,Prod.mk.injEq]at hl;rw [← hl.2];exact Pres.push h _ hb)
theorem lStrBytes_pres {h h':Hp}{src dst:TypeId}{s:ByteArray}{v:Value}(hb:h.base≤h.bl.length) (hl:lStrBytes P h src dst s=some (v,h')):Pres h h':=by
  unfold lStrBytes at hl
  repeat' (split at hl)
  all_goals first | cases hl;done | (simp only [Option.some.injEq,Prod.mk.injEq]at hl;rw [← hl.2];exact Pres.push h _ hb)
theorem lStore_pres {h h':Hp}{t:TypeId}{x v:Value}(hl:lStore P h t x v=some h'):Pres h h':=by
  unfold lStore at hl
  repeat' (split at hl)
  all_goals first | cases hl;done | (simp only [Option.some.injEq]at hl;rw [← hl];exact Pres.put h _ _)
theorem lMapUpdate_pres {h h':Hp}{t:TypeId}{k v x:Value}(hl:lMapUpdate P h t k v x=some h'):Pres h h':=by
  unfold lMapUpdate at hl
  repeat' (split at hl)
  all_goals first | cases hl;done | (simp only [Option.some.injEq]at hl;rw [← hl];exact Pres.put h _ _)
theorem lAppend_pres {h h':Hp}{ts tx:TypeId}{s x v:Value}(hb:h.base≤h.bl.length) (hl:lAppend P h ts tx s x=some (v,h')):Pres h h':=by
  unfold lAppend at hl
  repeat' (split at hl)
  all_goals first
    | cases hl;done
    | (simp only [Option.some.injEq,Prod.mk.injEq]at hl;rw [← hl.2];exact Pres.refl h)
    | (simp only [Option.some.injEq,Prod.mk.injEq]at hl;rw [← hl.2];exact Pres.push h _ hb)
    | (simp only [Option.some.injEq,Prod.mk.injEq]at hl;rw [← hl.2];exact (Pres.put h _ _).trans (Pres.push _ _ (by simp [Hp.put];exact hb)))
theorem run_callFunc {f:FuncId}{args:Array Value}(hN:NoNG P) (hb:bodied P f=true):(callFunc f args).run P w=.ok (.enter f args) w:=by
  unfold bodied at hb
  cases hf:P.funcs[f]? with
  | none=>rw [hf]at hb;cases hb
  | some fn =>
    rw [hf]at hb
    simp only [callFunc,Sem.run_bind,run_program,Result.andThen_ok,hf,hN f fn hf hb,Bool.false_eq_true,if_false]
    have:fn.body.isNone=false:=by cases h:fn.body<;>simp_all
    simp only [this,Bool.false_eq_true,if_false,Sem.run_pure]
theorem aloud_sound {h:Hp}{o:Oper}{nx:Nx}(hN:NoNG P) (hb:h.base≤h.bl.length) (hI:Inv K w0 φ h.bl w) (hρ:Evs φ ρ ρ') (ha:aloud P ρ h o=some nx):NxR P K w0 φ w h (execOp ρ' o) nx:=by
  unfold aloud at ha
  split at ha
  case h_1 t ho =>
    rw [Option.map_eq_some_iff]at ha
    obtain ⟨⟨v,h'⟩,hl,rfl⟩:=ha
    simp only [execOp,ho]
    exact nx_loud (lAlloc_pres hb hl) (lAlloc_sound hI hl)
  case h_2 t x ho =>
    split at ha
    · rename_i hx
      rw [Bool.and_eq_true]at hx
      simp only [Option.some.injEq]at ha;subst ha
      simp only [execOp,ho]
      exact nx_loud (Pres.push h _ hb) (alloc_sound hI t (hρ x hx.1) hx.2)
    · cases ha
  case h_3 t len ps ho =>
    split at ha
    · rename_i hx
      rw [Option.map_eq_some_iff]at ha
      obtain ⟨⟨v,h'⟩,hl,rfl⟩:=ha
      simp only [execOp,ho]
      have e:∀f:Operand→Value,(ps.map fun (i,x)=>(i,f x)).toList=ps.toList.map fun (i,x)=>(i,f x):=fun f=>by simp
      exact nx_loud (lBuildSlice_pres hb hl) (lBuildSlice_sound hI (parts:=ps.map fun (i,x)=>(i,ρ x)) (by rw [e];exact hl) (by rw [e,e];exact parts_of hρ hx))
    · cases ha
  case h_4 t a x ho =>
    split at ha
    · rename_i hx
      simp only [Bool.and_eq_true]at hx
      rw [Option.map_eq_some_iff]at ha
      obtain ⟨h',hl,rfl⟩:=ha
      obtain ⟨w',hr,hI'⟩:=lStore_sound hI hl (hρ a hx.1) (hρ x hx.2)
      simp only [execOp,ho]
      exact nx_skip (lStore_pres hl) hr hI'
    · cases ha
  case h_5 src dst x ho =>
    split at ha
    · rename_i hx
      split at ha
      · rename_i s hs
        rw [Option.map_eq_some_iff]at ha
        obtain ⟨⟨v,h'⟩,hl,rfl⟩:=ha
        have hxv:=hρ x hx
        rw [hs]at hxv
        have hx':ρ' x=.string s:=gr_eq (v:=.string s) rfl hxv
        simp only [execOp,ho,hx']
        exact nx_loud (lStrBytes_pres hb hl) (lStrBytes_sound hI hl)
      · cases ha
    · cases ha
  case h_6 t r ho =>
    split at ha
    · rename_i hr
      obtain rfl:r=none:=by cases r<;>first | rfl | cases hr
      simp only [Option.some.injEq]at ha;subst ha
      simp only [execOp,ho]
      exact nx_loud (Pres.push h _ hb) (lMakeMap_sound hI t)
    · cases ha
  case h_7 t m k x ho =>
    split at ha
    · rename_i hx
      simp only [Bool.and_eq_true]at hx
      rw [Option.map_eq_some_iff]at ha
      obtain ⟨h',hl,rfl⟩:=ha
      obtain ⟨w',hr,hI'⟩:=lMapUpdate_sound hI hl (hρ m hx.1.1) (hρ k hx.1.2) (hρ x hx.2)
      simp only [execOp,ho]
      exact nx_skip (lMapUpdate_pres hl) hr hI'
    · cases ha
  case h_8 t m k x ho =>
    split at ha
    · rename_i hx
      simp only [Bool.and_eq_true]at hx
      rw [Option.map_eq_some_iff]at ha
      obtain ⟨h',hl,rfl⟩:=ha
      obtain ⟨w',hr,hI'⟩:=lMapUpdate_sound hI hl (hρ m hx.1.1) (hρ k hx.1.2) (hρ x hx.2)
      simp only [execOp,ho]
      exact nx_skip (lMapUpdate_pres hl) hr hI'
    · cases ha
  case h_9 args argTypes ho =>
    split at ha
    · rename_i s x ts tx h1 h2
      obtain rfl:args=#[s,x]:=by cases args;simp_all
      obtain rfl:argTypes=#[ts,tx]:=by cases argTypes;simp_all
      split at ha
      · rename_i hx
        simp only [Bool.and_eq_true]at hx
        rw [Option.map_eq_some_iff]at ha
        obtain ⟨⟨v,h'⟩,hl,rfl⟩:=ha
        have e:Array.map ρ' #[s,x]=#[ρ' s,ρ' x]:=by simp
        have:=nx_loud (lAppend_pres hb hl) (lAppend_sound (ty:=o.type) hI hl (hρ s hx.1) (hρ x hx.2))
        simp only [execOp,ho,resolve,e]
        exact this
      · cases ha
    · cases ha
  case h_10 ho =>
    simp only [Option.some.injEq]at ha;subst ha
    simp only [execOp,ho]
    rfl
  case h_11 f args argTypes ho =>
    split at ha
    · rename_i hx
      simp only [Bool.and_eq_true]at hx
      have hfv:=hρ f hx.1
      have hargs:=vrs_map hρ hx.2
      split at ha
      · rename_i g first cap hf
        split at ha
        · rename_i hbd
          simp only [Option.some.injEq]at ha;subst ha
          rw [hf]at hfv
          generalize hf':ρ' f=f' at hfv
          cases hfv with
          | @fn _ _ first' _ cap' hg h1 h2 h3 h4 =>
            refine ⟨hbd,first'++args.map ρ'++cap',?_,((VRs.of h1 h2).append hargs).append (VRs.of h3 h4)⟩
            simp only [execOp,ho,resolve,hf',Deferred.ofValue,Sem.run_bind,Sem.run_pure,Result.andThen_ok,invoke,run_callFunc hN hbd]
        · cases ha
      · rename_i l first cap hf
        split at ha
        · rename_i he
          simp only [Option.some.injEq]at ha;subst ha
          rw [hf]at hfv
          generalize hf':ρ' f=f' at hfv
          cases hfv with
          | fn hg=>cases hg
          | @yield _ B t hφ =>
            refine ⟨B,t,args.map ρ',hφ,?_,hargs⟩
            simp only [execOp,ho,resolve,hf',Deferred.ofValue,Sem.run_bind,Sem.run_pure,Result.andThen_ok,invoke,Array.empty_append]
        · cases ha
      · cases ha
    · cases ha
  case h_12 f args argTypes ho =>
    split at ha
    · rename_i hx
      simp only [Bool.and_eq_true]at hx
      have hfv:=hρ f hx.1
      have hargs:=vrs_map hρ hx.2
      split at ha
      · rename_i g first cap hf
        split at ha
        · simp only [Option.some.injEq]at ha;subst ha
          rw [hf]at hfv
          generalize hf':ρ' f=f' at hfv
          cases hfv with
          | @fn _ _ first' _ cap' hg h1 h2 h3 h4 =>
            refine ⟨{ target:=.fn (.func g) cap',args:=first'++args.map ρ' },?_,.inl ⟨g,cap,cap',rfl,rfl,VRs.of h3 h4,(VRs.of h1 h2).append hargs⟩⟩
            simp only [execOp,ho,resolve,hf',Deferred.ofValue,Sem.run_bind,Sem.run_pure,Result.andThen_ok]
        · cases ha
      · cases ha
    · cases ha
  case h_13 x ho =>
    split at ha
    · rename_i hx
      split at ha
      · rename_i t v hv
        simp only [Option.some.injEq]at ha;subst ha
        have hxv:=hρ x hx
        rw [hv]at hxv
        generalize hx':ρ' x=x' at hxv
        cases hxv with
        | iface _ hvv =>
          refine ⟨_,?_,.iface t hvv⟩
          simp only [execOp,ho,hx',Instr.panic,Sem.run_bind,run_goPanic,Result.andThen_halt]
      · cases ha
    · cases ha
  case h_14=>cases ha
theorem aop_sound {h:Hp}{o:Oper}{nx:Nx}(hN:NoNG P) (hb:h.base≤h.bl.length) (hI:Inv K w0 φ h.bl w) (hρ:Evs φ ρ ρ') (ha:aop P ρ h o=some nx):NxR P K w0 φ w h (execOp ρ' o) nx:=by
  unfold aop at ha
  split at ha
  · rename_i v hv
    simp only [Option.some.injEq]at ha;subst ha
    obtain ⟨v',hr,hvv⟩:=aread_sound hI hρ hv
    exact ⟨Pres.refl h,φ,v',w,.inl hr,le_refl φ,hvv,hI⟩
  · exact aloud_sound hN hb hI hρ ha
end
def sc0 (n:Nat):Value→Bool
  | .pointer (some a)=>decide (a.block<n)
  | .slice (some a) _ _=>decide (a.block<n)
  | .map (some r)=>decide (r<n)
  | .func (.via 0 ⟨[]⟩ 0 _) _ _=>true
  | v=>g0 v
def sc1 (n:Nat):Value→Bool
  | .iface _ v=>gA v
  | .func (.yield l) _ _=>decide (l<n)
  | .func (.via 0 ⟨[]⟩ 0 _) _ _=>true
  | .func _ first cap=>first.toList.all (sc0 n)&&cap.toList.all (sc0 n)
  | v=>sc0 n v
def scA (n:Nat):Value→Bool
  | .agg cs=>cs.toList.all (sc1 n)
  | v=>sc1 n v
def scT (n:Nat):Value→Bool
  | .tuple vs=>vs.toList.all (scA n)
  | v=>scA n v
def cut (φ:Phi)(n:Nat):Phi:=⟨fun b=>if b<n then φ b else none,φ.z⟩
theorem cut_lt {φ:Phi}{n b:Nat}(h:b<n):cut φ n b=φ b:=by simp [cut,h]
theorem cut_ge {φ:Phi}{n b:Nat}(h:n≤b):cut φ n b=none:=by simp [cut];omega
theorem all_getD {p:Value→Bool}{cs:Array Value}(h:cs.toList.all p=true) {i:Nat}(hi:i<cs.size):p (cs.getD i undef)=true:=by
  rw [List.all_eq_true]at h
  rw [Array.getD_eq_getD_getElem?,Array.getElem?_eq_getElem hi]
  exact h _ (by simp)
theorem sc0_cut {φ:Phi}{n:Nat} {v v':Value}(h:sc0 n v=true) (hv:VR φ v v'):VR (cut φ n) v v':=by
  cases hv with
  | ptr hφ=>simp [sc0]at h;exact .ptr ((cut_lt h).trans hφ)
  | sliceZ hφ a' c=>simp [sc0]at h;exact .sliceZ ((cut_lt h).trans hφ) a' c
  | slice hφ hl hc=>simp [sc0]at h;exact .slice ((cut_lt h).trans hφ) hl hc
  | map hφ=>simp [sc0]at h;exact .map ((cut_lt h).trans hφ)
  | bool b=>exact .bool b
  | int k n=>exact .int k n
  | float k n=>exact .float k n
  | complex k n m=>exact .complex k n m
  | string s=>exact .string s
  | ptrN=>exact .ptrN
  | sliceN=>exact .sliceN
  | mapN=>exact .mapN
  | nilFunc=>exact .nilFunc
  | nilIface=>exact .nilIface
  | fn hg =>
    unfold sc0 at h
    split at h
    · rename_i e;cases e
    · rename_i e;cases e
    · rename_i e;cases e
    · rename_i e;cases e;cases hg
    · cases h
  | fz h=>exact .fz h
  | yield=>simp [sc0,g0]at h
  | iface=>simp [sc0,g0]at h
  | agg=>simp [sc0,g0]at h
  | tuple=>simp [sc0,g0]at h
  | top=>simp [sc0,g0]at h
theorem sc1_fn {n:Nat}{g:Fn}(hg:plainFn g=true) (first cap:Array Value):sc1 n (.func g first cap)=(first.toList.all (sc0 n)&&cap.toList.all (sc0 n)):=by
  unfold sc1
  split
  · rename_i e;cases e
  · rename_i e;cases e;cases hg
  · rename_i e;cases e;cases hg
  · rename_i e;cases e;rfl
  · rename_i e;exact absurd rfl (e _ _ _)
theorem sc1_cut {φ:Phi}{n:Nat} {v v':Value}(h:sc1 n v=true) (hv:VR φ v v'):VR (cut φ n) v v':=by
  cases hv with
  | iface t hv =>
    simp only [sc1]at h
    rw [gA_eq h hv]
    exact .iface t (gA_refl h)
  | yield hφ=>simp [sc1]at h;exact .yield ((cut_lt h).trans hφ)
  | @fn g _ _ _ _ hg h1 h2 h3 h4 =>
    have hh:∀{xs:Array Value},xs.toList.all (sc0 n)=true→∀i,i<xs.size→sc0 n (xs.getD i undef)=true:=fun h i hi=>all_getD h hi
    rw [sc1_fn hg,Bool.and_eq_true]at h
    exact .fn hg h1 (fun i hi=>sc0_cut (hh h.1 i hi) (h2 i hi)) h3 (fun i hi=>sc0_cut (hh h.2 i hi) (h4 i hi))
  | ptr hφ=>exact sc0_cut h (.ptr hφ)
  | sliceZ hφ a' c=>exact sc0_cut h (.sliceZ hφ a' c)
  | slice hφ hl hc=>exact sc0_cut h (.slice hφ hl hc)
  | map hφ=>exact sc0_cut h (.map hφ)
  | bool b=>exact .bool b
  | int k n=>exact .int k n
  | float k n=>exact .float k n
  | complex k n m=>exact .complex k n m
  | string s=>exact .string s
  | ptrN=>exact .ptrN
  | sliceN=>exact .sliceN
  | mapN=>exact .mapN
  | nilFunc=>exact .nilFunc
  | nilIface=>exact .nilIface
  | fz h=>exact .fz h
  | agg=>simp [sc1,sc0,g0]at h
  | tuple=>simp [sc1,sc0,g0]at h
  | top=>simp [sc1,sc0,g0]at h
theorem scA_cut {φ:Phi}{n:Nat} {v v':Value}(h:scA n v=true) (hv:VR φ v v'):VR (cut φ n) v v':=by
  unfold scA at h
  split at h
  · cases hv with
    | agg h1 h2=>exact .agg h1 fun i hi=>sc1_cut (all_getD h hi) (h2 i hi)
  · exact sc1_cut h hv
theorem scT_cut {φ:Phi}{n:Nat} {v v':Value}(h:scT n v=true) (hv:VR φ v v'):VR (cut φ n) v v':=by
  unfold scT at h
  split at h
  · cases hv with
    | tuple h1 h2=>exact .tuple h1 fun i hi=>scA_cut (all_getD h hi) (h2 i hi)
    | top _ hb=>exact .top _ hb
  · exact scA_cut h hv
theorem VR.scope {φ φ':Phi}{n:Nat}(ht:∀b,n≤b→φ b=none) {v x:Value}(h:VR φ v x):∀{v':Value},VR φ' v v'→VR (cut φ' n) v v':=by
  have hin:∀{b:Nat} {y:Nat×Nat×Nat},φ b=some y→b<n:=fun {b} {y} hb=>by
    rcases Nat.lt_or_ge b n with h | h
    · exact h
    · rw [ht b h]at hb;cases hb
  induction h with
  | ptr hφ=>intro v' hv;cases hv with | ptr h'=>exact .ptr ((cut_lt (hin hφ)).trans h')
  | sliceZ hφ a' c =>
    intro v' hv
    cases hv with
    | sliceZ h' a'' c=>exact .sliceZ ((cut_lt (hin hφ)).trans h') _ _
    | slice h' hl hc=>exact .slice ((cut_lt (hin hφ)).trans h') hl hc
  | slice hφ hl hc =>
    intro v' hv
    cases hv with
    | sliceZ h' a'' c=>exact .sliceZ ((cut_lt (hin hφ)).trans h') _ _
    | slice h' hl hc=>exact .slice ((cut_lt (hin hφ)).trans h') hl hc
  | map hφ=>intro v' hv;cases hv with | map h'=>exact .map ((cut_lt (hin hφ)).trans h')
  | yield hφ =>
    intro v' hv
    cases hv with
    | fn hg=>cases hg
    | yield h'=>exact .yield ((cut_lt (hin hφ)).trans h')
  | fn hg h1 h2 h3 h4 ih2 ih4 =>
    intro v' hv
    cases hv with
    | fn hg' k1 k2 k3 k4=>exact .fn hg' k1 (fun i hi=>ih2 i hi (k2 i hi)) k3 (fun i hi=>ih4 i hi (k4 i hi))
    | yield=>cases hg
    | fz=>cases hg
  | fz _ =>
    intro v' hv
    cases hv with
    | fn hg=>cases hg
    | fz h'=>exact .fz h'
  | iface t _ ih=>intro v' hv;cases hv with | iface _ h'=>exact .iface t (ih h')
  | agg h1 _ ih=>intro v' hv;cases hv with | agg k1 k2=>exact .agg k1 fun i hi=>ih i hi (k2 i hi)
  | tuple h1 _ ih =>
    intro v' hv
    cases hv with
    | tuple k1 k2=>exact .tuple k1 fun i hi=>ih i hi (k2 i hi)
    | top _ hb=>exact .top _ hb
  | top x hx =>
    intro v' hv
    cases hv with
    | tuple k1 k2=>exact .tuple k1 fun i hi=>absurd hi (Nat.not_lt_zero _)
    | top _ hb=>exact .top _ hb
  | bool b=>intro v' hv;cases hv;exact .bool b
  | int k n=>intro v' hv;cases hv;exact .int k n
  | float k n=>intro v' hv;cases hv;exact .float k n
  | complex k n m=>intro v' hv;cases hv;exact .complex k n m
  | string s=>intro v' hv;cases hv;exact .string s
  | ptrN=>intro v' hv;cases hv;exact .ptrN
  | sliceN=>intro v' hv;cases hv;exact .sliceN
  | mapN=>intro v' hv;cases hv;exact .mapN
  | nilFunc=>intro v' hv;cases hv;exact .nilFunc
  | nilIface=>intro v' hv;cases hv;exact .nilIface
theorem VRs.scope {φ φ':Phi}{n:Nat}(ht:∀b,n≤b→φ b=none) {xs ys zs:Array Value}(h:VRs φ xs ys) (k:VRs φ' xs zs):VRs (cut φ' n) xs zs :=
  VRs.of k.size fun i _=>VR.scope ht (h.getD i) (k.getD i)
theorem ObR.scope {φ φ':Phi}{n:Nat}(ht:∀b,n≤b→φ b=none) {w w':World}{ob:Ob}{B1 b1 t1 B base tot:Nat}(h:ObR φ w ob B1 b1 t1) (k:ObR φ' w' ob B base tot):ObR (cut φ' n) w' ob B base tot:=by
  have hin:∀{b:Nat} {y:Nat×Nat×Nat},φ b=some y→b<n:=fun {b} {y} hb=>by
    rcases Nat.lt_or_ge b n with h | h
    · exact h
    · rw [ht b h]at hb;cases hb
  cases ob with
  | dead=>trivial
  | cells c ro =>
    obtain ⟨C,el,fr,h1,h2,h3⟩:=h
    obtain ⟨C',el',fr',k1,k2,k3⟩:=k
    refine ⟨C',el',fr',k1,fun i v hv=>?_,k3⟩
    obtain ⟨v1,_,r1⟩:=h2 i v hv
    obtain ⟨v',hv',r⟩:=k2 i v hv
    exact ⟨v',hv',VR.scope ht r1 r⟩
  | map es =>
    obtain ⟨h0,E,clock,h1,h2,h3⟩:=h
    obtain ⟨k0,E',clock',k1,k2,k3⟩:=k
    refine ⟨k0,E',clock',k1,k2,fun i key v hv=>?_⟩
    obtain ⟨_,_,_,r1⟩:=h3 i key v hv
    obtain ⟨en,he,hk,r⟩:=k3 i key v hv
    exact ⟨en,he,hk,VR.scope ht r1 r⟩
  | loop st pend tmps ps assign body dfr =>
    obtain ⟨h0,fn,tmps',D',h1,h2,td,h3⟩:=h
    obtain ⟨k0,fn',tmps'',D'',k1,k2,td',k3⟩:=k
    exact ⟨k0,fn',tmps'',D'',k1,VRs.scope ht h2 k2,td',(cut_lt (hin h3)).trans k3⟩
  | dfr shut=>exact k
def obSc (n:Nat):Ob→Bool
  | .dead=>true
  | .cells c _=>c.toList.all (sc1 n)
  | .map es=>es.all fun e=>sc1 n e.2
  | .loop _ _ t _ _ _ d=>t.toList.all (scT n)&&decide (d<n)
  | .dfr _=>true
theorem all_get? {p:Value→Bool}{cs:Array Value}(h:cs.toList.all p=true) {i:Nat}{v:Value}(hv:cs[i]?=some v):p v=true:=by
  rw [List.all_eq_true]at h
  exact h v (by rw [Array.mem_toList_iff];exact Array.mem_of_getElem? hv)
theorem obSc_cut {φ:Phi}{n:Nat}{w:World}{ob:Ob}{B base tot:Nat}(h:obSc n ob=true) (k:ObR φ w ob B base tot):ObR (cut φ n) w ob B base tot:=by
  cases ob with
  | dead=>trivial
  | cells c ro =>
    obtain ⟨C',el',fr',k1,k2,k3⟩:=k
    refine ⟨C',el',fr',k1,fun i v hv=>?_,k3⟩
    obtain ⟨v',hv',r⟩:=k2 i v hv
    exact ⟨v',hv',sc1_cut (all_get? h hv) r⟩
  | map es =>
    obtain ⟨k0,E',clock',k1,k2,k3⟩:=k
    refine ⟨k0,E',clock',k1,k2,fun i key v hv=>?_⟩
    obtain ⟨en,he,hk,r⟩:=k3 i key v hv
    simp only [obSc,List.all_eq_true]at h
    exact ⟨en,he,hk,sc1_cut (h (key,v) (List.mem_of_getElem? hv)) r⟩
  | loop st pend tmps ps assign body dfr =>
    simp only [obSc,Bool.and_eq_true,decide_eq_true_eq]at h
    obtain ⟨k0,fn',tmps'',D'',k1,k2,td',k3⟩:=k
    exact ⟨k0,fn',tmps'',D'',k1,VRs.of k2.size (fun i hi=>scT_cut (all_getD h.1 hi) (k2.getD i)),td',(cut_lt h.2).trans k3⟩
  | dfr shut=>exact k
def enterH (h:Hp):Hp:={ bl:=h.bl,base:=h.bl.length,wr:=[] }
def exitH (h hf:Hp)(v:Value):Hp :=
  if scT h.bl.length v&&hf.wr.isEmpty then h
  else if scT h.bl.length v&&hf.wr.all (fun b=>(hf.bl[b]?).all (obSc h.bl.length)) then { bl:=hf.bl.take h.bl.length,base:=h.base,wr:=hf.wr.filter (fun b=>decide (b<h.base))++h.wr }
  else { bl:=hf.bl,base:=h.base,wr:=hf.wr.filter (fun b=>decide (b<h.base))++h.wr }
theorem exit_sound {K:Nat→Prop} {w0 w w':World} {φ φ':Phi}{h hf:Hp} {v v':Value}(hb:h.base≤h.bl.length) (hI:Inv K w0 φ h.bl w) (hF:Inv K w0 φ' hf.bl w') (hle:le φ φ') (hp:Pres (enterH h) hf) (hv:VR φ' v v') :
    Pres h (exitH h hf v)∧∃φ'',le φ φ''∧VR φ'' v v'∧Inv K w0 φ'' (exitH h hf v).bl w':=by
  have hin:∀{b:Nat} {y:Nat×Nat×Nat},φ b=some y→b<h.bl.length:=fun {b} {y} hb=>by
    rcases Nat.lt_or_ge b h.bl.length with h1 | h1
    · exact h1
    · rw [hI.top b h1]at hb;cases hb
  have hlec:le φ (cut φ' h.bl.length):=⟨fun b x hx=>(cut_lt (hin hx)).trans (hle b x hx),hle.zz⟩
  have hsame:∀b,b<h.bl.length→b ∉ hf.wr→hf.bl[b]?=h.bl[b]?:=fun b hlt hn=>(hp.same b hlt hn).2
  have hlen:h.bl.length≤hf.bl.length:=hp.len
  have short:(∀b∈hf.wr,(hf.bl[b]?).all (obSc h.bl.length)=true)→Inv K w0 (cut φ' h.bl.length) (hf.bl.take h.bl.length) w':=by
    intro hw
    have hget:∀{b:Nat} {ob:Ob},(hf.bl.take h.bl.length)[b]?=some ob→b<h.bl.length∧hf.bl[b]?=some ob:=by
      intro b ob hb
      rw [List.getElem?_take]at hb
      split at hb
      · rename_i hlt;exact ⟨hlt,hb⟩
      · cases hb
    refine ⟨?_,?_,?_,hF.keep,hF.klt,hF.size,hF.os,hF.tape,hF.output,?_,hF.frz,?_,hF.zk⟩
    · intro b ob hb' hl
      obtain ⟨hlt,hb1⟩:=hget hb'
      obtain ⟨B,base,tot,h1,h2⟩:=hF.obs b ob hb1 hl
      refine ⟨B,base,tot,(cut_lt hlt).trans h1,?_⟩
      by_cases hm:b∈hf.wr
      · have:=hw b hm
        rw [hb1]at this
        exact obSc_cut (by simpa using this) h2
      · rw [hsame b hlt hm]at hb1
        obtain ⟨B1,base1,tot1,_,h3⟩:=hI.obs b ob hb1 hl
        exact ObR.scope hI.top h3 h2
    · intro b b' ob ob' x y hne hb1 hb2 hrw hl hx hy
      obtain ⟨hlt1,hb1⟩:=hget hb1
      obtain ⟨hlt2,hb2⟩:=hget hb2
      rw [cut_lt hlt1]at hx
      rw [cut_lt hlt2]at hy
      exact hF.sep b b' ob ob' x y hne hb1 hb2 hrw hl hx hy
    · intro b ob x hb1 hrw hx
      obtain ⟨hlt1,hb1⟩:=hget hb1
      rw [cut_lt hlt1]at hx
      exact hF.prot b ob x hb1 hrw hx
    · intro b hge
      rw [List.length_take,Nat.min_eq_left hlen]at hge
      exact cut_ge hge
    · intro b ob x hb1 hrw hx
      obtain ⟨hlt1,hb1⟩:=hget hb1
      rw [cut_lt hlt1]at hx
      exact hF.zsep b ob x hb1 hrw hx
  have hfil:∀b,b<h.base→b ∉ (hf.wr.filter (fun b=>decide (b<h.base))++h.wr)→b ∉ hf.wr∧b ∉ h.wr:=by
    intro b hlt hn
    simp only [List.mem_append,List.mem_filter,decide_eq_true_eq,not_or,not_and]at hn
    exact ⟨fun hm=>hn.1 hm hlt,hn.2⟩
  unfold exitH
  split
  · rename_i hc
    simp only [Bool.and_eq_true,List.isEmpty_iff]at hc
    refine ⟨Pres.refl h,cut φ' h.bl.length,hlec,scT_cut hc.1 hv,?_⟩
    have:=short (by rw [hc.2];intro b hb;cases hb)
    have e:hf.bl.take h.bl.length=h.bl:=by
      apply List.ext_getElem?
      intro b
      rw [List.getElem?_take]
      split
      · rename_i hlt;exact hsame b hlt (by rw [hc.2];exact List.not_mem_nil)
      · rename_i hge;rw [List.getElem?_eq_none (by omega)]
    rw [e]at this
    exact this
  · split
    · rename_i hc
      simp only [Bool.and_eq_true,List.all_eq_true]at hc
      refine ⟨⟨rfl,by simp;omega,?_,?_⟩,cut φ' h.bl.length,hlec,scT_cut hc.1 hv,short hc.2⟩
      · intro b hlt hn
        obtain ⟨n1,n2⟩:=hfil b hlt hn
        refine ⟨n2,?_⟩
        simp only
        rw [List.getElem?_take,if_pos (by omega)]
        exact hsame b (by omega) n1
      · intro b ob hx hl hr
        simp only at hx
        rw [List.getElem?_take]at hx
        split at hx
        · exact hp.ro b ob hx hl hr
        · cases hx
    · refine ⟨⟨rfl,hlen,?_,hp.ro⟩,φ',hle,hv,hF⟩
      intro b hlt hn
      obtain ⟨n1,n2⟩:=hfil b hlt hn
      exact ⟨n2,hsame b (by omega) n1⟩
def resL (P:Program)(H:List Ob)(t:Array Value):List ResultVar→Option (List Value)
  | []=>some []
  | .tmp x::r=>(resL P H t r).map (t.getD x undef::·)
  | .cell a ty::r=>match rLoad P H ty (t.getD a undef),resL P H t r with
    | some v,some vs=>some (v::vs)
    | _,_=>none
def resB (P:Program)(H:List Ob)(fn:Func)(t:Array Value):Option Value :=
  match resL P H t fn.results.toList with
  | some [v]=>some v
  | some vs=>some (.tuple vs.toArray)
  | none=>none
section
variable {P:Program}{K:Nat→Prop}{w0 w:World} {φ:Phi}{H:List Ob}
def resOne (t:Array Value):ResultVar→Sem Value
  | .tmp x=>pure (t.getD x undef)
  | .cell a ty=>do loadVar ty (← asAddr (t.getD a undef))
theorem results_eq (fn:Func)(t:Array Value):results fn t=(do let vs ← fn.results.mapM (resOne t);pure (if h:vs.size=1 then vs[0] else .tuple vs)):=by
  unfold results
  congr 1
theorem resL_sound (hI:Inv K w0 φ H w) {t t':Array Value}(ht:VRs φ t t'):∀{rs:List ResultVar}{vs:List Value},resL P H t rs=some vs →
    ∃vs',(rs.mapM (resOne t')).run P w=.ok vs' w∧VRl φ vs vs'
  | [],vs,h=>by simp only [resL,Option.some.injEq]at h;subst h;exact ⟨[],rfl,.nil⟩
  | .tmp x::r,vs,h=>by
    simp only [resL,Option.map_eq_some_iff]at h
    obtain ⟨us,hu,rfl⟩:=h
    obtain ⟨us',hr,hv⟩:=resL_sound hI ht hu
    refine ⟨t'.getD x undef::us',?_,.cons (ht.getD x) hv⟩
    simp only [List.mapM_cons,resOne,Sem.run_bind,Sem.run_pure,Result.andThen_ok,hr]
  | .cell a ty::r,vs,h=>by
    simp only [resL]at h
    split at h
    · rename_i v us h1 hu
      simp only [Option.some.injEq]at h;subst h
      obtain ⟨us',hr,hv⟩:=resL_sound hI ht hu
      have hta:=ht.getD a
      obtain ⟨v',hl,hvv⟩:=rLoad_sound hI h1 hta
      refine ⟨v'::us',?_,.cons hvv hv⟩
      have:(resOne t' (.cell a ty)).run P w=.ok v' w:=by
        show (do loadVar ty (← asAddr (t'.getD a undef)):Sem Value).run P w=.ok v' w
        unfold rLoad at h1
        split at h1
        · rename_i b off heq
          rw [heq]at hta
          generalize t'.getD a undef=x' at hta hl
          cases hta with
          | ptr hφ=>exact hl
        · rename_i c b off heq
          rw [heq]at hta
          generalize t'.getD a undef=x' at hta hl
          cases hta with
          | fn hg=>cases hg
          | fz hf =>
            obtain ⟨C,el,fr,B,base,_,rfl,hz,_⟩:=hf.dpt_inv
            exact hl
        · cases h1
      simp only [List.mapM_cons,Sem.run_bind,this,Result.andThen_ok,hr,Sem.run_pure]
    · cases h
theorem resB_sound (hI:Inv K w0 φ H w) {fn:Func} {t t':Array Value}{v:Value}(ht:VRs φ t t') (h:resB P H fn t=some v):∃v',(results fn t').run P w=.ok v' w∧VR φ v v':=by
  unfold resB at h
  have key:∀{vs:List Value},resL P H t fn.results.toList=some vs→∃vs':List Value,(results fn t').run P w=.ok (if h:vs'.toArray.size=1 then vs'.toArray[0] else .tuple vs'.toArray) w∧VRl φ vs vs':=by
    intro vs hvs
    obtain ⟨vs',hr,hv⟩:=resL_sound hI ht hvs
    refine ⟨vs',?_,hv⟩
    rw [results_eq,Array.mapM_eq_mapM_toList]
    simp only [Sem.run_bind,Sem.run_map,Sem.run_pure,hr,Result.andThen_ok]
  have hlist:∀{vs vs':List Value},VRl φ vs vs'→VRs φ vs.toArray vs'.toArray:=by
    intro vs vs' hv i
    have:=vrl_get hv i
    simpa using this
  split at h
  · rename_i u hu
    simp only [Option.some.injEq]at h;subst h
    obtain ⟨vs',hr,hv⟩:=key hu
    cases hv with
    | cons h1 h2=>cases h2;exact ⟨_,hr,h1⟩
  · rename_i vs hne hu
    simp only [Option.some.injEq]at h;subst h
    obtain ⟨vs',hr,hv⟩:=key hu
    refine ⟨.tuple vs'.toArray,?_,(hlist hv).tuple⟩
    rw [hr,dif_neg]
    have hl:=vrl_len hv
    intro h1
    simp at h1
    rw [h1]at hl
    match vs,hl with
    | [v],_=>exact hne v rfl
  · cases h
end
end Go.Gi
namespace Go.Gi
open Go.RowKit
noncomputable section
inductive Ex where
  | normal
  | exit (id:Nat)
  | goto (l:Nat)
  | ret
  | panic (v:Value)
structure St where
  t:List Value
  d:List Deferred
  h:Hp
inductive Mo where
  | returning
  | panicking (v:Value) (done:Bool)
inductive Task where
  | code (rd:Option Nat) (c:Code) (s:St)
  | call (f:FuncId) (args:Array Value) (h:Hp)
  | dcall (f:FuncId) (args:Array Value) (m:Mo) (h:Hp)
  | round (l:Nat) (args:Array Value) (h:Hp)
inductive Out where
  | ex (e:Ex) (s:St)
  | ret (v:Value) (h:Hp)
  | pan (v:Value) (h:Hp)
  | dret (m:Mo) (h:Hp)
abbrev Self:=Task→Option Out
def lget (l:List Value):Nat→Value :=
  List.rec (motive:=fun _=>Nat→Value) (fun _=>undef) (fun v _ ih n=>Nat.rec (motive:=fun _=>Value) v (fun m _=>ih m) n) l
def lset:List Value→Nat→Value→List Value
  | [],_,_=>[]
  | _::r,0,v=>v::r
  | x::r,n+1,v=>x::lset r n v
def lsetK {β:Type}(l:List Value):Nat→Value→(List Value→β)→β :=
  List.rec (motive:=fun _=>Nat→Value→(List Value→β)→β) (fun _ _ k=>k [])
    (fun x r ih n v k=>Nat.rec (motive:=fun _=>β) (k (v::r)) (fun m _=>ih m v fun r'=>k (x::r')) n) l
theorem lsetK_eq {β:Type}:∀(l:List Value) (n:Nat) (v:Value) (k:List Value→β),lsetK l n v k=k (lset l n v)
  | [],_,_,_=>rfl
  | _::_,0,_,_=>rfl
  | x::r,n+1,v,k=>(lsetK_eq r n v fun r'=>k (x::r')).trans rfl
theorem lget_eq:∀(l:List Value) (n:Nat),lget l n=l.toArray.getD n undef
  | [],n=>by show undef=_;simp
  | v::r,0=>by show v=_;simp
  | v::r,n+1=>by
    show lget r n=_
    rw [lget_eq r n,Array.getD_eq_getD_getElem?,Array.getD_eq_getD_getElem?]
    simp
theorem lset_eq:∀(l:List Value) (n:Nat) (v:Value),(lset l n v).toArray=l.toArray.setIfInBounds n v
  | l,n,v=>by
    have h:∀(l:List Value) (n:Nat),lset l n v=l.set n v:=by
      intro l
      induction l with
      | nil=>intro n;rfl
      | cons x r ih =>
        intro n
        cases n with
        | zero=>rfl
        | succ n=>simp [lset,ih]
    rw [h];simp
def put (t:List Value)(dst:Option Tmp)(v:Value):List Value :=
  match dst with
  | some d=>lset t d v
  | none=>t
def evalT (t:List Value):Operand→Value
  | .tmp x=>lget t x
  | .const v=>v
  | .global g=>.pointer (some ⟨g,0,none⟩)
  | .func f=>.func (.func f) #[] #[]
def wantedT (os:Array Oper)(t:List Value)(o:Oper):Bool :=
  match o.guard with
  | none=>true
  | some (j,want) =>
    match (os[j]?).bind (·.dst) with
    | some d=>(match lget t d with | .bool b=>b == want | _=>false)
    | none=>false
def forceN {β:Type}(n:Nat) (k:Nat→β):β:=Nat.rec (motive:=fun _=>β) (k 0) (fun m _=>k m) (Nat.add n 1)
theorem forceN_eq {β:Type}(n:Nat) (k:Nat→β):forceN n k=k n:=rfl
def forceI {β:Type}(n:Int) (k:Int→β):β:=Int.rec (motive:=fun _=>β) (fun m=>forceN m fun m=>k (.ofNat m)) (fun m=>forceN m fun m=>k (.negSucc m)) n
theorem forceI_eq {β:Type}(n:Int) (k:Int→β):forceI n k=k n:=by cases n<;>rfl
def forceO {β:Type}(a:Option Addr) (k:Option Addr→β):β :=
  match a with
  | some ⟨b,o,none⟩=>forceN b fun b=>forceN o fun o=>k (some ⟨b,o,none⟩)
  | a=>k a
theorem forceO_eq {β:Type}(a:Option Addr) (k:Option Addr→β):forceO a k=k a:=by
  unfold forceO
  split
  · simp only [forceN_eq]
  · rfl
def force0 {β:Type}(v:Value) (k:Value→β):β :=
  match v with
  | .bool b=>(match b with | true=>k (.bool true) | false=>k (.bool false))
  | .int q n=>forceI n fun n=>k (.int q n)
  | .pointer a=>forceO a fun a=>k (.pointer a)
  | .slice a l c=>forceO a fun a=>forceN l fun l=>forceN c fun c=>k (.slice a l c)
  | v=>k v
theorem force0_eq {β:Type}(v:Value) (k:Value→β):force0 v k=k v:=by
  unfold force0
  split
  · rename_i b;cases b<;>rfl
  · simp only [forceI_eq]
  · simp only [forceO_eq]
  · simp only [forceO_eq,forceN_eq]
  · rfl
def forceL {β:Type}:List Value→(List Value→β)→β
  | [],k=>k []
  | x::r,k=>force0 x fun x=>forceL r fun r=>k (x::r)
theorem forceL_eq {β:Type}:∀(l:List Value) (k:List Value→β),forceL l k=k l
  | [],_=>rfl
  | x::r,k=>by simp only [forceL,force0_eq,forceL_eq r]
def force1 {β:Type}(v:Value) (k:Value→β):β :=
  match v with
  | .agg ⟨cs⟩=>forceL cs fun cs=>k (.agg ⟨cs⟩)
  | v=>force0 v k
theorem force1_eq {β:Type}(v:Value) (k:Value→β):force1 v k=k v:=by
  unfold force1
  split
  · simp only [forceL_eq]
  · rw [force0_eq]
def forceL1 {β:Type}:List Value→(List Value→β)→β
  | [],k=>k []
  | x::r,k=>force1 x fun x=>forceL1 r fun r=>k (x::r)
theorem forceL1_eq {β:Type}:∀(l:List Value) (k:List Value→β),forceL1 l k=k l
  | [],_=>rfl
  | x::r,k=>by simp only [forceL1,force1_eq,forceL1_eq r]
def forceV {β:Type}(v:Value) (k:Value→β):β :=
  match v with
  | .tuple ⟨vs⟩=>forceL1 vs fun vs=>k (.tuple ⟨vs⟩)
  | v=>force1 v k
theorem forceV_eq {β:Type}(v:Value) (k:Value→β):forceV v k=k v:=by
  unfold forceV
  split
  · simp only [forceL1_eq]
  · rw [force1_eq]
def putK {β:Type}(t:List Value) (dst:Option Tmp) (v:Value) (k:List Value→β):β :=
  match dst with
  | some d=>forceV v fun v=>lsetK t d v k
  | none=>k t
theorem putK_eq {β:Type}(t:List Value) (dst:Option Tmp) (v:Value) (k:List Value→β):putK t dst v k=k (put t dst v):=by
  cases dst with
  | none=>rfl
  | some d=>simp only [putK,put,forceV_eq,lsetK_eq]
def forceOb {β:Type}(o:Ob) (k:Ob→β):β :=
  match o with
  | .cells ⟨c⟩ ro=>forceL c fun c=>k (.cells ⟨c⟩ ro)
  | o=>k o
theorem forceOb_eq {β:Type}(o:Ob) (k:Ob→β):forceOb o k=k o:=by
  unfold forceOb
  split
  · simp only [forceL_eq]
  · rfl
def forceB {β:Type}:List Ob→(List Ob→β)→β
  | [],k=>k []
  | x::r,k=>forceOb x fun x=>forceB r fun r=>k (x::r)
theorem forceB_eq {β:Type}:∀(l:List Ob) (k:List Ob→β),forceB l k=k l
  | [],_=>rfl
  | x::r,k=>by simp only [forceB,forceOb_eq,forceB_eq r]
def forceS {β:Type}(l:List Ob):(List Ob→β)→β :=
  List.rec (motive:=fun _=>(List Ob→β)→β) (fun k=>k []) (fun x _ ih k=>ih fun r=>k (x::r)) l
theorem forceS_eq {β:Type}:∀(l:List Ob) (k:List Ob→β),forceS l k=k l
  | [],_=>rfl
  | x::r,k=>forceS_eq r fun r=>k (x::r)
def forceE {β:Type}(l:List Ob):(List Ob→β)→β :=
  List.rec (motive:=fun _=>(List Ob→β)→β) (fun k=>k [])
    (fun x r ih k=>List.rec (motive:=fun _=>β) (forceOb x fun x=>k [x]) (fun _ _ _=>ih fun r=>k (x::r)) r) l
theorem forceE_eq {β:Type}:∀(l:List Ob) (k:List Ob→β),forceE l k=k l
  | [],_=>rfl
  | [x],k=>forceOb_eq x fun x=>k [x]
  | x::y::r,k=>forceE_eq (y::r) fun r=>k (x::r)
def forceH {β:Type}(o:Op) (h:Hp) (k:Hp→β):β :=
  match o with
  | .alloc _ | .box _ _ | .buildSlice _ _ _ | .makeMap _ _=>forceE h.bl fun bl=>forceN h.base fun base=>k { bl:=bl,base:=base,wr:=h.wr }
  | .call { callee:=.value _,.. }=>forceS h.bl fun bl=>forceN h.base fun base=>k { bl:=bl,base:=base,wr:=h.wr }
  | .store _ _ _ | .convert _ _ _ | .mapUpdate _ _ _ _ | .call _=>forceB h.bl fun bl=>forceN h.base fun base=>k { bl:=bl,base:=base,wr:=h.wr }
  | _=>k h
theorem forceH_eq {β:Type}(o:Op) (h:Hp) (k:Hp→β):forceH o h k=k h:=by
  unfold forceH
  split<;>simp only [forceB_eq,forceS_eq,forceE_eq,forceN_eq]
def runOps (P:Program)(self:Self)(rd:Option Nat)(os:Array Oper):List Nat→St→Option Out
  | [],s=>some (.ex .normal s)
  | i::r,s =>
    match os[i]? with
    | none=>runOps P self rd os r s
    | some o =>
      if wantedT os s.t o then
        match aop P (evalT s.t) s.h o with
        | some (.val v h)=>putK s.t o.dst v fun t=>forceH o.op h fun h=>runOps P self rd os r { s with t:=t,h:=h }
        | some (.enter f args) =>
          match self (.call f args s.h) with
          | some (.ret v h)=>putK s.t o.dst v fun t=>forceH o.op h fun h=>runOps P self rd os r { s with t:=t,h:=h }
          | some (.pan v h)=>some (.ex (.panic v) { s with h:=h })
          | _=>none
        | some (.yield l args) =>
          match self (.round l args s.h) with
          | some (.ret v h)=>putK s.t o.dst v fun t=>forceH o.op h fun h=>runOps P self rd os r { s with t:=t,h:=h }
          | _=>none
        | some (.defer d)=>if rd.isNone then putK s.t o.dst undef fun t=>runOps P self rd os r { t:=t,d:=d::s.d,h:=s.h } else none
        | some (.panic v)=>some (.ex (.panic v) s)
        | _=>none
      else putK s.t o.dst undef fun t=>runOps P self rd os r { s with t:=t }
def moVal:Mo→Value
  | .returning=>undef
  | .panicking v _=>v
def settleM:Mo→Mo
  | .panicking _ true=>.returning
  | m=>m
def leave (P:Program)(self:Self)(fn:Func)(t:List Value)(h:Hp):List Deferred→Mo→Hp→Option Out
  | [],.returning,hf=>(resB P hf.bl fn t.toArray).map fun v=>.ret v (exitH h hf v)
  | [],.panicking v false,hf=>some (.pan v (exitH h hf v))
  | [],.panicking _ true,_=>none
  | d::ds,m,hf =>
    match d.target with
    | .collected r =>
      match hf.bl[r]? with
      | some (.dfr false)=>leave P self fn t h ds m (hf.put r (.dfr true))
      | _=>none
    | .fn (.func g) cap =>
      if bodied P g then
        match self (.dcall g (d.args++cap) m hf) with
        | some (.dret m' h')=>leave P self fn t h ds (settleM m') h'
        | _=>none
      else none
    | _=>none
def runDOps (P:Program)(os:Array Oper):List Nat→St→Mo→Option (Ex×St×Mo)
  | [],s,m=>some (.normal,s,m)
  | i::r,s,m =>
    match os[i]? with
    | none=>runDOps P os r s m
    | some o =>
      if wantedT os s.t o then
        match aop P (evalT s.t) s.h o with
        | some (.val v h)=>putK s.t o.dst v fun t=>forceH o.op h fun h=>runDOps P os r { s with t:=t,h:=h } m
        | some .recover =>
          match m with
          | .panicking v false=>runDOps P os r { s with t:=put s.t o.dst v } (.panicking v true)
          | m=>runDOps P os r { s with t:=put s.t o.dst .nilIface } m
        | _=>none
      else runDOps P os r { s with t:=put s.t o.dst undef } m
def hasRecover (os:Array Oper):Bool:=os.toList.any fun o=>match o.op with | .call { callee:=.builtin .recover,.. }=>true | _=>false
def dcode (P:Program)(self:Self):Code→St→Mo→Option (Ex×St×Mo)
  | .seq a b,s,m =>
    match dcode P self a s m with
    | some (.normal,s',m')=>dcode P self b s' m'
    | r=>r
  | .cond c x y,s,m =>
    if okO c then match evalT s.t c with
      | .bool true=>dcode P self x s m
      | .bool false=>dcode P self y s m
      | _=>none
    else none
  | .region id os dr,s,m =>
    if hasRecover os&&!dr then runDOps P os (List.range os.size) s m
    else match self (.code none (.region id os dr) s) with
      | some (.ex e s')=>some (e,s',m)
      | _=>none
  | c,s,m =>
    match self (.code none c s) with
    | some (.ex e s')=>some (e,s',m)
    | _=>none
def frame (fn:Func)(args:Array Value):List Value:=args.toList++List.replicate (fn.ntmps-args.size) undef
def loopNew (s:St)(ps:Array Tmp)(assign body:Code)(D:Nat):Ob:=.loop .ready none s.t.toArray ps assign body D
def endLoop (self:Self)(rd:Option Nat)(L:Nat)(d:List Deferred)(t:List Value):Option Out→Option Out
  | some (.ret _ h) =>
    match h.bl[L]? with
    | some (.loop st pend t' ps a b D) =>
      if st=.busy then none else
      match pend with
      | none=>some (.ex .normal { t:=t,d:=d,h:=h.put L (.loop .exhausted none t' ps a b D) })
      | some c=>match self (.code rd c { t:=t,d:=d,h:=h.put L (.loop .exhausted (some c) t' ps a b D) }) with
        | some (.ex e s)=>some (.ex e s)
        | _=>none
    | _=>none
  | _=>none
def jumpOf:Ex→Option (Option Code)
  | .normal=>some none
  | .ret=>some (some .ret)
  | .exit id=>some (some (.exit id))
  | .goto l=>some (some (.goto l))
  | .panic _=>none
def stepF (drawn:Program→Self→Option Nat→Nat→Array Oper→St→Option Out)(P:Program)(self:Self):Task→Option Out
  | .code rd c s =>
    match c with
    | .skip | .label _=>some (.ex .normal s)
    | .exit id=>some (.ex (.exit id) s)
    | .goto l=>some (.ex (.goto l) s)
    | .ret=>some (.ex .ret s)
    | .seq a b =>
      match self (.code rd a s) with
      | some (.ex .normal s')=>match self (.code rd b s') with
        | some (.ex e s2)=>some (.ex e s2)
        | _=>none
      | some (.ex e s')=>some (.ex e s')
      | _=>none
    | .cond c x y =>
      if okO c then match evalT s.t c with
        | .bool true=>(match self (.code rd x s) with | some (.ex e s')=>some (.ex e s') | _=>none)
        | .bool false=>(match self (.code rd y s) with | some (.ex e s')=>some (.ex e s') | _=>none)
        | _=>none
      else none
    | .block id c =>
      match self (.code rd c s) with
      | some (.ex (.exit id') s')=>if id'=id then some (.ex .normal s') else some (.ex (.exit id') s')
      | some (.ex e s')=>some (.ex e s')
      | _=>none
    | .loop c =>
      match self (.code rd c s) with
      | some (.ex .normal s')=>(match self (.code rd (.loop c) s') with | some (.ex e s2)=>some (.ex e s2) | _=>none)
      | some (.ex e s')=>some (.ex e s')
      | _=>none
    | .region id os dr=>if dr then drawn P self rd id os s else runOps P self rd os (List.range os.size) s
    | .rangeFunc g ps assign body =>
      if okO g then match evalT s.t g with
        | .func (.func f) first cap =>
          if bodied P f then
            match rd with
            | none =>
              endLoop self none (s.h.bl.length+1) ({ target:=.collected s.h.bl.length,args:=#[] }::s.d) s.t
                (self (.call f (first++#[.func (.yield (s.h.bl.length+1)) #[] #[]]++cap) ((s.h.push (.dfr false)).push (loopNew s ps assign body s.h.bl.length))))
            | some l0=>match s.h.bl[l0]? with
              | some (.loop _ _ _ _ _ _ D) =>
                endLoop self (some l0) s.h.bl.length s.d s.t (self (.call f (first++#[.func (.yield s.h.bl.length) #[] #[]]++cap) (s.h.push (loopNew s ps assign body D))))
              | _=>none
          else none
        | _=>none
      else none
    | _=>none
  | .call f args h =>
    match P.funcs[f]? with
    | some fn=>match fn.body with
      | some c=>match forceL1 (frame fn args) fun t=>self (.code none c { t:=t,d:=[],h:=enterH h }) with
        | some (.ex .normal s) | some (.ex .ret s)=>leave P self fn s.t h s.d .returning s.h
        | some (.ex (.panic v) s)=>leave P self fn s.t h s.d (.panicking v false) s.h
        | _=>none
      | none=>none
    | none=>none
  | .dcall f args m h =>
    match P.funcs[f]? with
    | some fn=>match fn.body with
      | some c=>match forceL1 (frame fn args) fun t=>dcode P self c { t:=t,d:=[],h:=enterH h } m with
        | some (.normal,s,m') | some (.ret,s,m') =>
          if s.d.isEmpty then match resB P s.h.bl fn s.t.toArray with
            | some _=>some (.dret m' (exitH h s.h (moVal m')))
            | none=>none
          else none
        | _=>none
      | none=>none
    | none=>none
  | .round l args h =>
    match h.bl[l]? with
    | some (.loop .ready _ t ps assign body _) =>
      if args.size=ps.size then
        match self (.code (some l) assign { t:=((ps.zip args).foldl (fun t (p,a)=>t.setIfInBounds p a) t).toList,d:=[],h:=h }) with
        | some (.ex .normal s1)=>match s1.h.bl[l]? with
          | some (.loop .ready pend1 t1 ps1 a1 b1 D1) =>
            match self (.code (some l) body { s1 with h:=s1.h.put l (.loop .busy pend1 t1 ps1 a1 b1 D1) }) with
            | some (.ex e s2)=>match jumpOf e,s2.h.bl[l]? with
              | some j,some (.loop _ _ t2 ps2 a2 b2 D2)=>some (.ret (.bool j.isNone) (s2.h.put l (.loop (if j.isNone then .ready else .done) j t2 ps2 a2 b2 D2)))
              | _,_=>none
            | _=>none
          | _=>none
        | _=>none
      else none
    | _=>none
inductive ExR (φ:Phi):Ex→Exit→Prop
  | normal:ExR φ .normal .normal
  | exit (id:Nat):ExR φ (.exit id) (.exit id)
  | goto (l:Nat):ExR φ (.goto l) (.goto l)
  | ret:ExR φ .ret .ret
  | panic {v v':Value} (h:VR φ v v'):ExR φ (.panic v) (.panic [{ v:=v',recovered:=false }])
inductive DRs (φ:Phi):List Deferred→List Deferred→Prop
  | nil:DRs φ [] []
  | cons {d d':Deferred} {l l':List Deferred} (h:DR φ d d') (r:DRs φ l l'):DRs φ (d::l) (d'::l')
theorem DRs.mono {φ ψ:Phi}(hle:le φ ψ) {l l':List Deferred}(h:DRs φ l l'):DRs ψ l l':=by
  induction h with
  | nil=>exact .nil
  | cons h _ ih=>exact .cons (h.mono hle) ih
inductive MoR (φ:Phi):Mo→FrameMode→Prop
  | returning:MoR φ .returning .returning
  | panicking {v v':Value} (done:Bool) (h:VR φ v v'):MoR φ (.panicking v done) (.panicking [{ v:=v',recovered:=done }])
theorem MoR.mono {φ ψ:Phi}(hle:le φ ψ) {m:Mo}{u:FrameMode}(h:MoR φ m u):MoR ψ m u:=by
  cases h with
  | returning=>exact .returning
  | panicking d h=>exact .panicking d (h.mono hle)
def CodeR (K:Nat→Prop)(w0:World) (φ:Phi)(e:Ex) (s':St)(x:Exit)(a:Act) (w':World):Prop :=
  ∃φ',le φ φ'∧ExR φ' e x∧VRs φ' s'.t.toArray a.tmps∧DRs φ' s'.d a.defers∧Inv K w0 φ' s'.h.bl w'
theorem CodeR.mono {K:Nat→Prop}{w0:World} {φ ψ:Phi}(hle:le φ ψ) {e:Ex} {s':St}{x:Exit}{a:Act} {w':World}(h:CodeR K w0 ψ e s' x a w'):CodeR K w0 φ e s' x a w':=by
  obtain ⟨φ',h1,h2⟩:=h
  exact ⟨φ',le_trans hle h1,h2⟩
def RetR (K:Nat→Prop)(w0:World) (φ:Phi)(v:Value)(h:Hp):Ending→World→Prop
  | .returned v',w'=>∃φ',le φ φ'∧VR φ' v v'∧Inv K w0 φ' h.bl w'
  | _,_=>False
def PanR (K:Nat→Prop)(w0:World) (φ:Phi)(v:Value)(h:Hp):Ending→World→Prop
  | .panicked chain,w'=>∃φ' v',chain=[{ v:=v',recovered:=false }]∧le φ φ'∧VR φ' v v'∧Inv K w0 φ' h.bl w'
  | _,_=>False
def FenceOk (φ:Phi)(rd:Option Nat)(F:Fence):Prop :=
  match rd with
  | none=>F=Fence.wide
  | some l=>∃L t,φ l=some (L,0,t)∧F=Fence.wide.inRound L
theorem FenceOk.mono {φ ψ:Phi}(hle:le φ ψ) {rd:Option Nat}{F:Fence}(h:FenceOk φ rd F):FenceOk ψ rd F:=by
  cases rd with
  | none=>exact h
  | some l=>obtain ⟨L,t,h1,h2⟩:=h;exact ⟨L,t,hle _ _ h1,h2⟩
theorem FenceOk.fn {φ:Phi}{rd:Option Nat}{F:Fence}(h:FenceOk φ rd F) (f:FuncId):F.fn f:=by
  cases rd with
  | none=>subst h;trivial
  | some l=>obtain ⟨L,t,_,rfl⟩:=h;trivial
theorem FenceOk.depth {φ:Phi}{rd:Option Nat}{F:Fence}(h:FenceOk φ rd F) (n:Nat):F.depth.isSome=true→1≤n:=by
  cases rd with
  | none=>subst h;intro h;cases h
  | some l=>obtain ⟨L,t,_,rfl⟩:=h;intro h;cases h
theorem FenceOk.calls {φ:Phi}{rd:Option Nat}{F:Fence}(h:FenceOk φ rd F) {n:Nat}{P:Program}{f:FuncId}{args:Array Value}{w:World}{R:Ending→World→Prop}(hc:CallsIn Fence.wide n P f args w R):CallsIn F n P f args w R:=by
  cases rd with
  | none=>subst h;exact hc
  | some l=>obtain ⟨L,t,_,rfl⟩:=h;exact hc
theorem FenceOk.round {φ:Phi}{rd:Option Nat}{F:Fence}(h:FenceOk φ rd F) {n:Nat}{P:Program}{l:Nat}{f:FuncId}{tm:Array Value}{as bd:Code}{w:World}{R:Ending→World→Prop}(hc:RoundIn Fence.wide n P l f tm as bd w R):RoundIn F n P l f tm as bd w R:=by
  cases rd with
  | none=>subst h;exact hc
  | some l=>obtain ⟨L,t,_,rfl⟩:=h;exact hc
def TaskOk (P:Program):Task→Out→Prop
  | .code rd c s,.ex e s'=>s.h.base≤s.h.bl.length→Pres s.h s'.h∧∀(K:Nat→Prop) (w0:World) (φ:Phi) (w:World) (a:Act) (F:Fence) (n:Nat),
      Inv K w0 φ s.h.bl w→VRs φ s.t.toArray a.tmps→DRs φ s.d a.defers→FenceOk φ rd F→c.wpIn F n P (CodeR K w0 φ e s') a w
  | .call f args h,.ret v h'=>h.base≤h.bl.length→Pres h h'∧∀(K:Nat→Prop) (w0:World) (φ:Phi) (w:World) (args':Array Value) (n:Nat),
      Inv K w0 φ h.bl w→VRs φ args args'→CallsIn Fence.wide n P f args' w (RetR K w0 φ v h')
  | .call f args h,.pan v h'=>h.base≤h.bl.length→Pres h h'∧∀(K:Nat→Prop) (w0:World) (φ:Phi) (w:World) (args':Array Value) (n:Nat),
      Inv K w0 φ h.bl w→VRs φ args args'→CallsIn Fence.wide n P f args' w (PanR K w0 φ v h')
  | .dcall f args m h,.dret m' h'=>h.base≤h.bl.length→Pres h h'∧∀(K:Nat→Prop) (w0:World) (φ:Phi) (w:World) (args':Array Value) (u:FrameMode) (n:Nat),
      Inv K w0 φ h.bl w→VRs φ args args'→MoR φ m u→CallsDIn Fence.wide n P f args' u w fun e u' w'=>∃v,e=.returned v∧∃φ',le φ φ'∧MoR φ' m' u'∧Inv K w0 φ' h'.bl w'
  | .round l args h,.ret v h'=>h.base≤h.bl.length→Pres h h'∧∀(K:Nat→Prop) (w0:World) (φ:Phi) (w:World) (args':Array Value) (B t:Nat) (n:Nat),
      Inv K w0 φ h.bl w→VRs φ args args'→φ l=some (B,0,t)→∃fn tm as bd,(Instr.yield B args').run P w=.ok (.round B fn tm as bd) w∧RoundIn Fence.wide n P B fn tm as bd w (RetR K w0 φ v h')
  | _,_=>False
def SelfOk (P:Program)(self:Self):Prop:=∀(t:Task) (o:Out),self t=some o→TaskOk P t o
section
variable {P:Program}{self:Self}
theorem put_defers (a:Act)(dst:Option Tmp)(v:Value):(a.put dst v).defers=a.defers:=by cases dst<;>rfl
theorem vrs_put {φ:Phi}{t:List Value}{a:Act} {v v':Value}(h:VRs φ t.toArray a.tmps) (hv:VR φ v v') (dst:Option Tmp):VRs φ (put t dst v).toArray (a.put dst v').tmps:=by
  cases dst with
  | none=>exact h
  | some d =>
    show VRs φ (lset t d v).toArray (a.tmps.setIfInBounds d v')
    rw [lset_eq];exact h.set hv d
theorem wanted_eq {φ:Phi}{t:List Value} {t':Array Value}(h:VRs φ t.toArray t') (os:Array Oper) (o:Oper):Region.wanted o (yielded os t')=wantedT os t o:=by
  unfold Region.wanted wantedT
  cases o.guard with
  | none=>rfl
  | some g =>
    obtain ⟨j,want⟩:=g
    simp only [yielded]
    cases (os[j]?).bind (·.dst) with
    | none=>rfl
    | some d =>
      simp only [Option.bind_some]
      rw [lget_eq,Array.getD_eq_getD_getElem?]
      have:=h d
      generalize t.toArray[d]?=x at this
      generalize t'[d]?=y at this
      cases this with
      | none=>rfl
      | some hv =>
        cases hv with
        | top _ hb=>rename_i b;cases b<;>first | rfl | cases hb
        | fz hf=>have hb:=hf.notB;rename_i b _ _ _;cases b<;>first | rfl | cases hb
        | _=>rfl
theorem evs_t {φ:Phi}{t:List Value}{a:Act}(h:VRs φ t.toArray a.tmps):Evs φ (evalT t) a.eval:=by
  intro x hx
  cases x with
  | tmp n =>
    show VR φ (lget t n) (a.tmps.getD n undef)
    rw [lget_eq];exact h.getD n
  | const v=>exact gr_refl hx
  | global g=>cases hx
  | func f=>exact .fn rfl rfl (fun i hi=>absurd hi (Nat.not_lt_zero _)) rfl (fun i hi=>absurd hi (Nat.not_lt_zero _))
theorem aop_defer {ρ:Operand→Value}{h:Hp}{o:Oper}{nx:Nx}{c:Call}(ho:o.op=.defer c) (ha:aop P ρ h o=some nx):∃d,nx=.defer d:=by
  unfold aop at ha
  split at ha
  · rename_i v hv
    unfold aread at hv
    rw [ho]at hv
    simp at hv
  · unfold aloud at ha
    rw [ho]at ha
    simp only at ha
    split at ha<;>first | cases ha;done | skip
    all_goals (repeat' (split at ha))<;>first | (cases ha;done) | (simp only [Option.some.injEq]at ha;subst ha;exact ⟨_,rfl⟩) | skip
    all_goals simp_all
theorem sem_plain {F:Fence} {ρ:Operand→Value}{o:Oper}(h:(∀c,o.op≠.defer c)∨F.round=none):o.semAt F.round ρ=execOp ρ o:=by
  rcases h with h | h
  · exact Oper.semAt_eq _ _ _ h
  · rw [h];rfl
theorem runOps_sound (hN:NoNG P)(hs:SelfOk P self) {rd:Option Nat}{os:Array Oper}:∀(l:List Nat) (s:St) (o:Out),runOps P self rd os l s=some o→s.h.base≤s.h.bl.length →
    ∃e s',o=.ex e s'∧Pres s.h s'.h∧∀(K:Nat→Prop) (w0:World) (φ:Phi) (w:World) (a:Act) (F:Fence) (n:Nat) (Q:Exit→Act→World→Prop),
      Inv K w0 φ s.h.bl w→VRs φ s.t.toArray a.tmps→DRs φ s.d a.defers→FenceOk φ rd F→(∀x a w',CodeR K w0 φ e s' x a w'→Q x a w')→wpOpsIn F n P os Q l a w
  | [],s,out,h,_=>by
    simp only [runOps,Option.some.injEq]at h;subst h
    refine ⟨.normal,s,rfl,Pres.refl _,?_⟩
    intro K w0 φ w a F n Q hI ht hd hF hQ
    exact hQ _ _ _ ⟨φ,le_refl φ,.normal,ht,hd,hI⟩
  | i::r,s,out,h,hb=>by
    simp only [runOps,putK_eq,forceH_eq]at h
    cases ho:os[i]? with
    | none =>
      rw [ho]at h
      obtain ⟨e,s',rfl,hp,hh⟩:=runOps_sound hN hs r s out h hb
      refine ⟨e,s',rfl,hp,?_⟩
      intro K w0 φ w a F n Q hI ht hd hF hQ
      simp only [wpOpsIn,ho]
      exact hh K w0 φ w a F n Q hI ht hd hF hQ
    | some o =>
      rw [ho]at h
      simp only at h
      by_cases hw:wantedT os s.t o=true
      · rw [if_pos hw]at h
        split at h
        · rename_i v h' ha
          have hnx:=fun (K:Nat→Prop) (w0:World) (φ:Phi) (w:World) (a:Act) (hI:Inv K w0 φ s.h.bl w) (ht:VRs φ s.t.toArray a.tmps)=>aop_sound hN hb hI (evs_t ht) ha
          have hnd:∀c,o.op≠.defer c:=fun c hc=>by obtain ⟨d,hd⟩:=aop_defer hc ha;cases hd
          have hbase:h'.base≤h'.bl.length:=by
            obtain ⟨p1,p2,_⟩:Pres s.h h':=aop_pres hb ha
            rw [p1];omega
          obtain ⟨e,s',rfl,hp,hh⟩:=runOps_sound hN hs r _ out h hbase
          refine ⟨e,s',rfl,(aop_pres hb ha).trans hp,?_⟩
          intro K w0 φ w a F n Q hI ht hd hF hQ
          obtain ⟨_,φ',v',w',hr,hle,hv,hI'⟩:=hnx K w0 φ w a hI ht
          simp only [wpOpsIn,ho]
          rw [if_pos (by rw [wanted_eq ht];exact hw)]
          refine ⟨fun f _=>hF.fn f,?_⟩
          rw [sem_plain (.inl hnd)]
          have hrest:wpOpsIn F n P os Q r (a.put o.dst v') w':=hh K w0 φ' w' _ F n Q hI' (by exact vrs_put (ht.mono hle) hv _) (by rw [put_defers];exact hd.mono hle) (hF.mono hle) (fun x a w'' hc=>hQ x a w'' (hc.mono hle))
          rcases hr with hr | ⟨hr,rfl⟩
          · rw [hr];exact hrest
          · rw [hr];exact hrest
        · rename_i f args ha
          have hnd:∀c,o.op≠.defer c:=fun c hc=>by obtain ⟨d,hd⟩:=aop_defer hc ha;cases hd
          split at h
          · rename_i v h' hcall
            obtain ⟨hp1,hc⟩:=hs _ _ hcall hb
            have hbase:h'.base≤h'.bl.length:=by rw [hp1.base];exact Nat.le_trans hb hp1.len
            obtain ⟨e,s',rfl,hp,hh⟩:=runOps_sound hN hs r _ out h hbase
            refine ⟨e,s',rfl,hp1.trans hp,?_⟩
            intro K w0 φ w a F n Q hI ht hd hF hQ
            obtain ⟨_,args',hr,hargs⟩:=aop_sound hN hb hI (evs_t ht) ha
            simp only [wpOpsIn,ho]
            rw [if_pos (by rw [wanted_eq ht];exact hw)]
            refine ⟨fun f _=>hF.fn f,?_⟩
            rw [sem_plain (.inl hnd),hr]
            refine ⟨hF.depth n,(hF.calls (hc K w0 φ w args' (n-1) hI hargs)).mono ?_⟩
            intro en w' hen
            cases en with
            | returned v' =>
              obtain ⟨φ',hle,hv,hI'⟩:=hen
              exact hh K w0 φ' w' _ F n Q hI' (by exact vrs_put (ht.mono hle) hv _) (by rw [put_defers];exact hd.mono hle) (hF.mono hle) (fun x a w'' hc=>hQ x a w'' (hc.mono hle))
            | panicked ch=>exact hen.elim
            | outgrown=>exact hen.elim
          · rename_i v h' hcall
            simp only [Option.some.injEq]at h;subst h
            obtain ⟨hp1,hc⟩:=hs _ _ hcall hb
            refine ⟨.panic v,_,rfl,hp1,?_⟩
            intro K w0 φ w a F n Q hI ht hd hF hQ
            obtain ⟨_,args',hr,hargs⟩:=aop_sound hN hb hI (evs_t ht) ha
            simp only [wpOpsIn,ho]
            rw [if_pos (by rw [wanted_eq ht];exact hw)]
            refine ⟨fun f _=>hF.fn f,?_⟩
            rw [sem_plain (.inl hnd),hr]
            refine ⟨hF.depth n,(hF.calls (hc K w0 φ w args' (n-1) hI hargs)).mono ?_⟩
            intro en w' hen
            cases en with
            | returned v'=>exact hen.elim
            | panicked ch =>
              obtain ⟨φ',v',rfl,hle,hv,hI'⟩:=hen
              exact hQ _ _ _ ⟨φ',hle,.panic hv,ht.mono hle,hd.mono hle,hI'⟩
            | outgrown=>exact hen.elim
          · cases h
        · rename_i l args ha
          have hnd:∀c,o.op≠.defer c:=fun c hc=>by obtain ⟨d,hd⟩:=aop_defer hc ha;cases hd
          split at h
          · rename_i v h' hcall
            obtain ⟨hp1,hc⟩:=hs _ _ hcall hb
            have hbase:h'.base≤h'.bl.length:=by rw [hp1.base];exact Nat.le_trans hb hp1.len
            obtain ⟨e,s',rfl,hp,hh⟩:=runOps_sound hN hs r _ out h hbase
            refine ⟨e,s',rfl,hp1.trans hp,?_⟩
            intro K w0 φ w a F n Q hI ht hd hF hQ
            obtain ⟨B,tb,args',hφ,hr,hargs⟩:=aop_sound hN hb hI (evs_t ht) ha
            obtain ⟨fn,tm,as,bd,hy,hround⟩:=hc K w0 φ w args' B tb (n-1) hI hargs hφ
            simp only [wpOpsIn,ho]
            rw [if_pos (by rw [wanted_eq ht];exact hw)]
            refine ⟨fun f _=>hF.fn f,?_⟩
            rw [sem_plain (.inl hnd),hr,hy]
            refine ⟨hF.depth n,(hF.round hround).mono ?_⟩
            intro en w' hen
            cases en with
            | returned v' =>
              obtain ⟨φ',hle,hv,hI'⟩:=hen
              exact hh K w0 φ' w' _ F n Q hI' (by exact vrs_put (ht.mono hle) hv _) (by rw [put_defers];exact hd.mono hle) (hF.mono hle) (fun x a w'' hc=>hQ x a w'' (hc.mono hle))
            | panicked ch=>exact hen.elim
            | outgrown=>exact hen.elim
          · cases h
        · rename_i d ha
          split at h
          · rename_i hrd
            obtain rfl:rd=none:=by cases rd<;>first | rfl | cases hrd
            obtain ⟨e,s',rfl,hp,hh⟩:=runOps_sound hN hs r _ out h hb
            refine ⟨e,s',rfl,hp,?_⟩
            intro K w0 φ w a F n Q hI ht hd hF hQ
            obtain ⟨d',hr,hdr⟩:=aop_sound hN hb hI (evs_t ht) ha
            have hF':F=Fence.wide:=hF
            simp only [wpOpsIn,ho]
            rw [if_pos (by rw [wanted_eq ht];exact hw)]
            refine ⟨fun f _=>hF.fn f,?_⟩
            rw [sem_plain (.inr (by rw [hF'];rfl)),hr]
            exact hh K w0 φ w _ F n Q hI (by exact vrs_put (a:={ a with defers:=d'::a.defers }) ht (VR.undef φ) _) (by rw [put_defers];exact .cons hdr hd) hF hQ
          · cases h
        · rename_i v ha
          have hnd:∀c,o.op≠.defer c:=fun c hc=>by obtain ⟨d,hd⟩:=aop_defer hc ha;cases hd
          simp only [Option.some.injEq]at h;subst h
          refine ⟨.panic v,s,rfl,Pres.refl _,?_⟩
          intro K w0 φ w a F n Q hI ht hd hF hQ
          obtain ⟨v',hr,hv⟩:=aop_sound hN hb hI (evs_t ht) ha
          simp only [wpOpsIn,ho]
          rw [if_pos (by rw [wanted_eq ht];exact hw)]
          refine ⟨fun f _=>hF.fn f,?_⟩
          rw [sem_plain (.inl hnd),hr]
          exact hQ _ _ _ ⟨φ,le_refl φ,.panic hv,ht,hd,hI⟩
        · cases h
      · rw [if_neg hw]at h
        obtain ⟨e,s',rfl,hp,hh⟩:=runOps_sound hN hs r _ out h hb
        refine ⟨e,s',rfl,hp,?_⟩
        intro K w0 φ w a F n Q hI ht hd hF hQ
        simp only [wpOpsIn,ho]
        rw [if_neg (by rw [wanted_eq ht];exact hw)]
        exact ⟨fun f _=>hF.fn f,hh K w0 φ w _ F n Q hI (by exact vrs_put ht (VR.undef φ) _) (by rw [put_defers];exact hd) hF hQ⟩
where
  aop_pres {ρ:Operand→Value} {h h':Hp} {o:Oper} {v:Value} (hb:h.base≤h.bl.length) (ha:aop P ρ h o=some (.val v h')):Pres h h':=by
    unfold aop at ha
    split at ha
    · simp only [Option.some.injEq,Nx.val.injEq]at ha
      rw [← ha.2];exact Pres.refl h
    · unfold aloud at ha
      split at ha
      · rw [Option.map_eq_some_iff]at ha
        obtain ⟨⟨u,k⟩,hl,hh⟩:=ha
        simp only [Nx.val.injEq]at hh;rw [← hh.2];exact lAlloc_pres hb hl
      · split at ha
        · simp only [Option.some.injEq,Nx.val.injEq]at ha;rw [← ha.2];exact Pres.push h _ hb
        · cases ha
      · split at ha
        · rw [Option.map_eq_some_iff]at ha
          obtain ⟨⟨u,k⟩,hl,hh⟩:=ha
          simp only [Nx.val.injEq]at hh;rw [← hh.2];exact lBuildSlice_pres hb hl
        · cases ha
      · split at ha
        · rw [Option.map_eq_some_iff]at ha
          obtain ⟨k,hl,hh⟩:=ha
          simp only [Nx.val.injEq]at hh;rw [← hh.2];exact lStore_pres hl
        · cases ha
      · split at ha
        · split at ha
          · rw [Option.map_eq_some_iff]at ha
            obtain ⟨⟨u,k⟩,hl,hh⟩:=ha
            simp only [Nx.val.injEq]at hh;rw [← hh.2];exact lStrBytes_pres hb hl
          · cases ha
        · cases ha
      · split at ha
        · simp only [Option.some.injEq,Nx.val.injEq]at ha;rw [← ha.2];exact Pres.push h _ hb
        · cases ha
      · split at ha
        · rw [Option.map_eq_some_iff]at ha
          obtain ⟨k,hl,hh⟩:=ha
          simp only [Nx.val.injEq]at hh;rw [← hh.2];exact lMapUpdate_pres hl
        · cases ha
      · split at ha
        · rw [Option.map_eq_some_iff]at ha
          obtain ⟨k,hl,hh⟩:=ha
          simp only [Nx.val.injEq]at hh;rw [← hh.2];exact lMapUpdate_pres hl
        · cases ha
      · split at ha
        · split at ha
          · rw [Option.map_eq_some_iff]at ha
            obtain ⟨⟨u,k⟩,hl,hh⟩:=ha
            simp only [Nx.val.injEq]at hh;rw [← hh.2];exact lAppend_pres hb hl
          · cases ha
        · cases ha
      · cases ha
      · repeat' (split at ha)
        all_goals cases ha
      · repeat' (split at ha)
        all_goals cases ha
      · repeat' (split at ha)
        all_goals cases ha
      · cases ha
end
section
variable {P:Program}{self:Self}
theorem dr_args {φ:Phi} {d d':Deferred}{g:FuncId}{cap:Array Value}(h:DR φ d d') (ht:d.target=.fn (.func g) cap):∃cap',d'.target=.fn (.func g) cap'∧VRs φ (d.args++cap) (d'.args++cap'):=by
  rcases h with ⟨g',c1,c2,h1,h2,h3,h4⟩ | ⟨r,B,t,h1,_,_⟩
  · rw [h1]at ht;cases ht
    exact ⟨c2,h2,h4.append h3⟩
  · rw [h1]at ht;cases ht
theorem dr_mark {φ:Phi} {d d':Deferred}{r:Nat}(h:DR φ d d') (ht:d.target=.collected r):∃B t,d'.target=.collected B∧φ r=some (B,0,t):=by
  rcases h with ⟨g',c1,c2,h1,_,_,_⟩ | ⟨r',B,t,h1,h2,h3⟩
  · rw [h1]at ht;cases ht
  · rw [h1]at ht;cases ht
    exact ⟨B,t,h2,h3⟩
theorem settle_ok {φ:Phi}{m:Mo}{u:FrameMode}(h:MoR φ m u):MoR φ (settleM m) (settle u):=by
  cases h with
  | returning=>exact .returning
  | panicking done h =>
    cases done with
    | false=>exact .panicking false h
    | true=>exact .returning
theorem mo_run {φ:Phi}{m:Mo}{u:FrameMode}(h:MoR φ m u):u≠.run:=by cases h<;>intro h<;>cases h
def OutR (K:Nat→Prop)(w0:World) (φ:Phi):Out→Ending→World→Prop
  | .ret v h=>RetR K w0 φ v h
  | .pan v h=>PanR K w0 φ v h
  | _=>fun _ _=>False
def outH (h:Hp):Out→Prop
  | .ret _ h'=>Pres h h'
  | .pan _ h'=>Pres h h'
  | _=>False
theorem exit_pres {h hf:Hp}(hb:h.base≤h.bl.length) (hp:Pres (enterH h) hf) (v:Value):Pres h (exitH h hf v):=by
  have hsame:∀b,b<h.bl.length→b ∉ hf.wr→hf.bl[b]?=h.bl[b]?:=fun b hlt hn=>(hp.same b hlt hn).2
  have hlen:h.bl.length≤hf.bl.length:=hp.len
  have hfil:∀b,b<h.base→b ∉ (hf.wr.filter (fun b=>decide (b<h.base))++h.wr)→b ∉ hf.wr∧b ∉ h.wr:=by
    intro b hlt hn
    simp only [List.mem_append,List.mem_filter,decide_eq_true_eq,not_or,not_and]at hn
    exact ⟨fun hm=>hn.1 hm hlt,hn.2⟩
  unfold exitH
  split
  · exact Pres.refl h
  · split
    · refine ⟨rfl,by simp;omega,?_,?_⟩
      · intro b hlt hn
        obtain ⟨n1,n2⟩:=hfil b hlt hn
        refine ⟨n2,?_⟩
        simp only
        rw [List.getElem?_take,if_pos (by omega)]
        exact hsame b (by omega) n1
      · intro b ob hx hl hr
        simp only at hx
        rw [List.getElem?_take]at hx
        split at hx
        · exact hp.ro b ob hx hl hr
        · cases hx
    · refine ⟨rfl,hlen,?_,hp.ro⟩
      intro b hlt hn
      obtain ⟨n1,n2⟩:=hfil b hlt hn
      exact ⟨n2,hsame b (by omega) n1⟩
theorem leave_sound (hN:NoNG P)(hs:SelfOk P self) {fn:Func}{t:List Value}{h:Hp}(hb:h.base≤h.bl.length):∀(ds:List Deferred) (m:Mo) (hf:Hp) (o:Out),leave P self fn t h ds m hf=some o→Pres (enterH h) hf →
    ((∃v h',o=.ret v h')∨(∃v h',o=.pan v h'))∧outH h o∧∀(K:Nat→Prop) (w0:World) (φ0 φ:Phi) (w0' w:World) (t':Array Value) (ds':List Deferred) (u:FrameMode) (n:Nat),
      Inv K w0 φ0 h.bl w0'→le φ0 φ→Inv K w0 φ hf.bl w→VRs φ t.toArray t'→DRs φ ds ds'→MoR φ m u→LeavesInM Fence.wide n P fn t' (OutR K w0 φ0 o) ds' u w
  | [],.returning,hf,o,hl,hp=>by
    simp only [leave,Option.map_eq_some_iff]at hl
    obtain ⟨v,hv,rfl⟩:=hl
    have hpr:∀(K:Nat→Prop) (w0:World) (φ0 φ:Phi) (w0' w:World) (v':Value),Inv K w0 φ0 h.bl w0'→Inv K w0 φ hf.bl w→le φ0 φ→VR φ v v'→_:=fun K w0 φ0 φ w0' w v' h1 h2 h3 h4=>exit_sound hb h1 h2 h3 hp h4
    refine ⟨.inl ⟨_,_,rfl⟩,exit_pres hb hp v,?_⟩
    intro K w0 φ0 φ w0' w t' ds' u n hI0 hle hI ht hd hm
    cases hd
    cases hm
    obtain ⟨v',hr,hvv⟩:=resB_sound hI ht hv
    obtain ⟨_,φ'',h1,h2,h3⟩:=hpr K w0 φ0 φ w0' w v' hI0 hI hle hvv
    exact ⟨v',hr,φ'',h1,h2,h3⟩
  | [],.panicking v false,hf,o,hl,hp=>by
    simp only [leave,Option.some.injEq]at hl
    subst hl
    refine ⟨.inr ⟨_,_,rfl⟩,exit_pres hb hp v,?_⟩
    intro K w0 φ0 φ w0' w t' ds' u n hI0 hle hI ht hd hm
    cases hd
    cases hm with
    | panicking _ hv =>
      obtain ⟨_,φ'',h1,h2,h3⟩:=exit_sound hb hI0 hI hle hp hv
      exact ⟨φ'',_,rfl,h1,h2,h3⟩
  | [],.panicking v true,hf,o,hl,hp=>by simp [leave]at hl
  | d::ds,m,hf,o,hl,hp=>by
    simp only [leave]at hl
    have hbf:hf.base≤hf.bl.length:=by rw [hp.base];exact hp.len
    split at hl
    · rename_i r ht
      split at hl
      · rename_i hr
        obtain ⟨h1,h2,h3⟩:=leave_sound hN hs hb ds m _ o hl (hp.trans (Pres.put hf r _))
        refine ⟨h1,h2,?_⟩
        intro K w0 φ0 φ w0' w t' ds' u n hI0 hle hI htt hd hm
        cases hd with
        | @cons _ d' _ ds'' hdr hds =>
          obtain ⟨B,tb,ht',hφ⟩:=dr_mark hdr ht
          obtain ⟨B',base',tot',q1,_,q3⟩:=hI.obs r _ hr rfl
          rw [hφ]at q1;cases q1
          have hlt:B<w.heap.size:=(Array.getElem?_eq_some_iff.1 q3).1
          refine ⟨mo_run hm,.inl ⟨B,_,ht',run_takeDeferred q3,?_⟩⟩
          exact h3 K w0 φ0 φ w0' _ t' ds'' u n hI0 hle (hI.write hr rfl hφ putObj_frame (by simp) rfl rfl rfl ⟨rfl,World.putObj_heap_same hlt⟩) htt hds hm
      · cases hl
    · rename_i g cap ht
      split at hl
      · rename_i hbd
        split at hl
        · rename_i m' h' hc
          obtain ⟨hp1,hcc⟩:=hs _ _ hc hbf
          obtain ⟨h1,h2,h3⟩:=leave_sound hN hs hb ds _ h' o hl (hp.trans hp1)
          refine ⟨h1,h2,?_⟩
          intro K w0 φ0 φ w0' w t' ds' u n hI0 hle hI htt hd hm
          cases hd with
          | @cons _ d' _ ds'' hdr hds =>
            obtain ⟨cap',ht',hargs⟩:=dr_args hdr ht
            refine ⟨mo_run hm,.inr ⟨(fun h=>nomatch h),.func g,cap',g,d'.args++cap',ht',?_,fun _ _=>trivial,?_⟩⟩
            · rw [ht'];simp only [invoke];exact run_callFunc hN hbd
            · refine (hcc K w0 φ w _ u (n-1) hI hargs hm).mono ?_
              rintro e u' w' ⟨v,rfl,φ',hle',hm',hI'⟩
              exact h3 K w0 φ0 φ' w0' w' t' ds'' (settle u') n hI0 (le_trans hle hle') hI' (htt.mono hle') (hds.mono hle') (settle_ok hm')
        · cases hl
      · cases hl
    · cases hl
theorem vrs_frame {φ:Phi}(fn:Func) {args args':Array Value}(h:VRs φ args args'):VRs φ (frame fn args).toArray (args'++Array.replicate (fn.ntmps-args'.size) undef):=by
  have e:(frame fn args).toArray=args++Array.replicate (fn.ntmps-args.size) undef:=by
    unfold frame
    apply Array.ext'
    simp
  rw [e,← h.size]
  exact h.append (VRs.replicate φ _ (VR.undef φ))
theorem call_sound (hN:NoNG P)(hs:SelfOk P self)(drawn:Program→Self→Option Nat→Nat→Array Oper→St→Option Out) {f:FuncId}{args:Array Value}{h:Hp}{o:Out}(hc:stepF drawn P self (.call f args h)=some o):TaskOk P (.call f args h) o:=by
  simp only [stepF,forceL1_eq]at hc
  split at hc
  case h_2=>cases hc
  rename_i fn hfn
  split at hc
  case h_2=>cases hc
  rename_i c hbody
  have main:∀(e:Ex) (s:St) (m:Mo),self (.code none c { t:=frame fn args,d:=[],h:=enterH h })=some (.ex e s) →
      (∀(φ:Phi) (x:Exit) (a:Act) (w:World) (R:Ending→World→Prop) (n:Nat),ExR φ e x→(∀u,MoR φ m u→LeavesInM Fence.wide n P fn a.tmps R a.defers u w)→bodyPostM Fence.wide n P fn R x a w) →
      leave P self fn s.t h s.d m s.h=some o→TaskOk P (.call f args h) o:=by
    intro e s m hcode hpost hl
    have htask:=hs _ _ hcode
    have key:h.base≤h.bl.length→((∃v h',o=.ret v h')∨(∃v h',o=.pan v h'))∧outH h o∧∀(K:Nat→Prop) (w0:World) (φ:Phi) (w:World) (args':Array Value) (n:Nat),Inv K w0 φ h.bl w→VRs φ args args'→CallsIn Fence.wide n P f args' w (OutR K w0 φ o):=by
      intro hb
      obtain ⟨hp,hcc⟩:=htask (Nat.le_refl _)
      obtain ⟨h1,h2,h3⟩:=leave_sound hN hs hb s.d m s.h o hl hp
      refine ⟨h1,h2,?_⟩
      intro K w0 φ w args' n hI hargs
      refine callsIn_of_wp_marks hfn hbody trivial (wpIn_mono (hcc K w0 φ w _ Fence.wide n hI (vrs_frame fn hargs) .nil rfl) ?_) rfl
      rintro x a w' ⟨φ',hle,hx,ht,hd,hI'⟩
      exact hpost φ' x a w' _ n hx (fun u hu=>h3 K w0 φ φ' w w' a.tmps a.defers u n hI hle hI' ht hd hu)
    cases o with
    | ret v h'=>exact fun hb=>let ⟨_,h2,h3⟩:=key hb;⟨h2,h3⟩
    | pan v h'=>exact fun hb=>let ⟨_,h2,h3⟩:=key hb;⟨h2,h3⟩
    | ex e1 s1 =>
      exfalso
      have:=(leave_shape s.d m s.h _ hl)
      rcases this with ⟨_,_,h⟩ | ⟨_,_,h⟩<;>cases h
    | dret m' h' =>
      exfalso
      have:=(leave_shape s.d m s.h _ hl)
      rcases this with ⟨_,_,h⟩ | ⟨_,_,h⟩<;>cases h
  split at hc
  · rename_i s hcode
    exact main .normal s .returning hcode (fun φ x a w R n hx hl=>by cases hx;exact hl _ .returning) hc
  · rename_i s hcode
    exact main .ret s .returning hcode (fun φ x a w R n hx hl=>by cases hx;exact hl _ .returning) hc
  · rename_i v s hcode
    exact main (.panic v) s (.panicking v false) hcode (fun φ x a w R n hx hl=>by cases hx with | panic hv=>exact hl _ (.panicking false hv)) hc
  · cases hc
where
  leave_shape {fn:Func} {t:List Value} {h:Hp}:∀(ds:List Deferred) (m:Mo) (hf:Hp) (o:Out),leave P self fn t h ds m hf=some o→(∃v h',o=.ret v h')∨(∃v h',o=.pan v h')
  | [],.returning,hf,o,hl=>by
    simp only [leave,Option.map_eq_some_iff]at hl
    obtain ⟨v,_,rfl⟩:=hl
    exact .inl ⟨_,_,rfl⟩
  | [],.panicking v false,hf,o,hl=>by
    simp only [leave,Option.some.injEq]at hl
    subst hl
    exact .inr ⟨_,_,rfl⟩
  | [],.panicking v true,hf,o,hl=>by simp [leave]at hl
  | d::ds,m,hf,o,hl=>by
    simp only [leave]at hl
    split at hl
    · split at hl
      · exact leave_shape ds _ _ o hl
      · cases hl
    · split at hl
      · split at hl
        · exact leave_shape ds _ _ o hl
        · cases hl
      · cases hl
    · cases hl
end
end
end Go.Gi
